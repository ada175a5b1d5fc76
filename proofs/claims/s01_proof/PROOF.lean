import PyProof.Rows.All
import Wide.All
import OpenK.AllK
import Wide.FinOn
import PyProof.EqAt
import PyProof.EqKinds
import PyProof.TupleCall
import KE.BitLaws
import Open.SpecLaws
import KE.OsHead
import KE.OsGo
import Kh321Spec
import PySem.Challenge.RW_townclues_s01_answers
open Bool renaming and_eq_true → ag, false_ne_true → aQ, noConfusion → cR, or_eq_true → cZ, eq_iff_iff → dX, not_eq_true' → eX, not_eq_false → iz, true_and → ji, and_eq_false_iff → kT, eq_false_iff → o8, not_eq_true → pK, and_comm → FN, and_eq_true_iff → J_, or_eq_false_iff → Kb, false_eq_true → M_
open Int renaming toNat_natCast → iD, natCast_nonneg → jJ, toNat_of_nonneg → nt
open Kh321 renaming Work → ae, say → aw, tower → az, standing → aB, Abs → aD, Ans → aT, doing → aY, line → aZ, clue → a6, all → a9, views → cC, seenFrom → dB, follow → dF, seen → dP, mirroredClues → dS, split → eN, readTown → eO, stuck → eP, turnedClues → eT, lines → fq, hint → fF, sign → fG, likes → fU, wrongs → fV, digit → fW, full → gd, setClue → gf, lineWays → gx, rows → iG, changed → jh, edgeOf → j_, bits → kS, heights → k0, spares → mx, ways → nL, columns → ud, Town → vh, list → vj, mirroredTown → vk, turnedTown → zN, lineBits → Dz, BACK → DB, Clues → J1
open Kh321Neutral renaming nat → bj, asked1 → fQ, sizes → q5, nats → rP, natural → BU, within → DA, step → FI
open List renaming length_map → af, getD_eq_getElem?_getD → aj, range → aq, getElem?_eq_getElem → au, length_append → ax, length_cons → ay, mem_cons → aF, replicate → aG, size_toArray → aH, map_cons → aN, length_range → aP, mem_range → aS, all_eq_true → aX, length_reverse → a7, map_map → a8, mem_map → ba, getElem?_set_ne → bg, map_append → bo, mem_cons_of_mem → bq, flatten_cons → bz, mem_append → bE, map_congr_left → bQ, not_mem_nil → bS, getElem?_eq_none → bY, mem_singleton → bZ, getElem?_set_self → b6, mem_of_getElem? → b7, getElem?_map → b8, foldl_cons → b9, flatMap_cons → b_, mem_cons_self → cj, getElem?_eq_some_iff → cw, replicate_succ → cM, mem_filter → cN, length_set → cO, lookup_cons → cQ, getElem_mem → cS, filter_congr → cV, length_take → c0, filter_cons → c5, findSome?_cons → c6, length_replicate → c9, append_assoc → de, all_cons → dk, mem_append_right → dA, reverse_cons → dQ, take_of_length_le → dR, filterMap_cons → dW, nil_append → eZ, filter_filter → fI, length_filter_le → fM, mem_or_eq_of_mem_set → fS, append_nil → fT, exists_of_findSome?_eq_some → f7, map_reverse → gz, mem_flatMap → gA, range_succ_eq_map → gU, lookup → iI, getElem?_append_right → iJ, getElem?_append_left → i5, filter_map → jF, ext_getElem? → ky, any_eq_true → k6, any_cons → lS, length → lZ, eq_nil_of_length_eq_zero → l4, getElem?_range → mw, getElem?_eq_none_iff → om, map_take → pz, map_drop → pA, getElem?_replicate → pI, map_flatMap → pJ, zipIdx_cons → pL, nodup_cons → rD, length_singleton → rO, mem_of_mem_take → sv, getD_cons_zero → ue, sum_cons → vi, zip_cons_cons → vK, mem_replicate → vN, map_nil → xC, all_map → xD, eraseIdxIfInBounds_toArray → zK, length_drop → zS, map_id → A8, of_mem_zip → BQ, count_cons → BR, mem_zipIdx → BS, findSome?_eq_none_iff → DE, drop_drop → DF, drop_left → DG, drop_eq_getElem_cons → FF, getElem?_zip_eq_some → FG, getLastD_eq_getLast? → FH, length_eq_zero_iff → Hd, any_map → IT, getElem?_reverse → JY, getElem?_toArray → JZ, mem_iff_getElem? → J0, take_append_drop → J3, mem_append_left → J9, dropLast_concat → Kc, filter_eq_self → ML, mem_of_getElem → MN, flatMap_append → MO, getD_cons_succ → MP, mem_filterMap → M7, foldl → M9, map_replicate → Nb, set_cons_zero → Nc, set_cons_succ → Nd, take_add_one → OJ, drop_length → Px, flatMap_map → Py, flatten_nil → Pz, mem_flatten → PB
open Nat renaming le_trans → aO, le_refl → aW, lt_of_lt_of_le → bC, zero_add → cn, ne_of_lt → cF, zero_le → c8, lt_irrefl → eK, mul_comm → eM, min_eq_left → e_, add_mul → gc, testBit_two_pow → gy, add_sub_cancel_left → gG, one_mul → gW, zero_mul → kF, mul_le_mul → kG, add_zero → kH, le_add_right → lT, div_eq_of_lt → lU, mul_le_mul_right → mv, le_of_succ_le → px, lt_succ_self → qB, ne_of_gt → rC, add_comm → rE, testBit_or → ua, eq_of_testBit_eq → ub, add_assoc → vM, mod_lt → wM, le_of_eq → zJ, lt_succ_of_lt → zL, mod_eq_of_lt → A7, mul_add_div → Dx, mul_add_mod → Dy, le_of_lt → JX, sub_zero → J2, add_mul_div_right → Ka, div_lt_of_lt_mul → MM, mul_le_mul_left → Na, add_sub_cancel → OK
open Option renaming bind_eq_some_iff → ab, bind_some → bw, some → bA, isNone_iff_eq_none → Dv, getD_none → M8
open PySem.W renaming Frag → aa, findIn → cK, nsIn → cW, keepIn → dt, mg_none_of → dG, emptyDict → dO, fnOf → e8, instObj → fN, codeIn → iy, hasDictIn → nP, mg_of → oi, plainGet → oZ, makesIn → pH, methodObj → vf, plainOver → vg, takerIn → zI, length_le_weightAllW → zM, lookIn → A6, isFn → FD, cellsFrom_some → FE, handedIn → MJ, WRecords → MK, WalkOS → OI
set_option Elab.async false
set_option linter.all false
set_option Elab.async false
set_option linter.all false
set_option maxRecDepth 100000
namespace L2
open PySem PySem.Spec PyProof.Rows
abbrev Key:=Sum Int Str
def OL:Key→Value→Bool
 | .inl k,v=>Value.isInt k v
 | .inr x,v=>Value.isStrOf x v
def VL (w:World):Key→Int
 | .inl k=>hashInt k
 | .inr x=>hashStr w x
theorem fJ:∀{k:Key} {v:Value},OL k v=true→(∃i t,k=Sum.inl i∧v=Value.int i t)∨(∃x t,k=Sum.inr x∧v=Value.str x t)
 | .inl i,v,h=>by
  obtain ⟨t,e⟩:=Value.isInt_shape (k:=i) (v:=v) h
  exact .inl ⟨i,t,rfl,e⟩
 | .inr x,v,h=>by
  obtain ⟨t,e⟩:=Value.isStrOf_shape (x:=x) (v:=v) h
  exact .inr ⟨x,t,rfl,e⟩
theorem PD (a b:Int):decide ((Sum.inl a:Key)=Sum.inl b)=(a == b):=by
 by_cases e:a=b
 ·subst e;simp
 ·have h:¬(Sum.inl a:Key)=Sum.inl b:=fun q=>e (Sum.inl.inj q)
  rw [decide_eq_false h]
  exact (beq_eq_false_iff_ne.mpr e).symm
theorem PF (a b:Str):decide ((Sum.inr a:Key)=Sum.inr b)=decide (a=b):=by
 by_cases e:a=b
 ·subst e;simp
 ·have h:¬(Sum.inr a:Key)=Sum.inr b:=fun q=>e (Sum.inr.inj q)
  rw [decide_eq_false h,decide_eq_false e]
theorem PJ (a:Int) (b:Str):decide ((Sum.inl a:Key)=Sum.inr b)=false:=decide_eq_false (fun q=>nomatch q)
theorem PK (a:Str) (b:Int):decide ((Sum.inr a:Key)=Sum.inl b)=false:=decide_eq_false (fun q=>nomatch q)
def He (prog:Program) (w:World):PySem.KeyKind prog w Key where
 is:=OL
 hash:=VL w
 inj:=fun v a b ha hb=>by
  rcases fJ ha with ⟨i,t,rfl,rfl⟩|⟨x,t,rfl,rfl⟩
  ·rcases fJ hb with ⟨j,u,rfl,e⟩|⟨y,u,rfl,e⟩
   ·injection e with e1 _;rw [e1]
   ·exact nomatch e
  ·rcases fJ hb with ⟨j,u,rfl,e⟩|⟨y,u,rfl,e⟩
   ·exact nomatch e
   ·injection e with e1 _;rw [e1]
 byValue:=fun k v h=>by
  rcases fJ h with ⟨i,t,rfl,rfl⟩|⟨x,t,rfl,rfl⟩<;>rfl
 pyHash:=fun hv h=>by
  rcases fJ hv with ⟨i,t,rfl,rfl⟩|⟨x,t,rfl,rfl⟩
  ·exact wpAny_pyHash_int h
  ·exact wpAny_pyHash_str h
 eqBool:=fun hu hv h=>by
  rcases fJ hu with ⟨i,t,rfl,rfl⟩|⟨x,t,rfl,rfl⟩
  ·rcases fJ hv with ⟨j,u,rfl,rfl⟩|⟨y,u,rfl,rfl⟩
   ·rw [PD] at h;exact wpAny_eqBool_int h
   ·rw [PJ] at h;exact SeqAt.EqAt.int_str i t y u _ _ _ _ h
  ·rcases fJ hv with ⟨j,u,rfl,rfl⟩|⟨y,u,rfl,rfl⟩
   ·rw [PK] at h;exact SeqAt.EqAt.str_int x t j u _ _ _ _ h
   ·rw [PF] at h;exact wpAny_eqBool_str h
 «strs»:=fun k x t v h=>by
  rcases fJ h with ⟨i,u,rfl,e⟩|⟨y,u,rfl,e⟩
  ·exact nomatch e
  ·injection e with e1 _
   subst e1
   cases v<;>rfl
end L2
namespace L2
open PySem PySem.Spec PyProof.Rows
inductive V where
 | gg|bl (b:Bool)|int (i:Int)|str (x:Str)|FJ (b:Array UInt8)|U5 (b:UInt64)|ref (a:Addr)|ty (n:String)
 deriving DecidableEq
def RelV:V→Value→Prop
 | .gg,u=>u=Value.none
 | .bl b,u=>u=Value.bool b
 | .int i,u=>∃t,u=Value.int i t
 | .str x,u=>∃t,u=Value.str x t
 | .FJ b,u=>∃t,u=Value.bytes b t
 | .U5 b,u=>∃t,u=Value.float b t
 | .ref a,u=>u=Value.ref a
 | .ty n,u=>u=Value.type n
abbrev Vals:List V→List Value→Prop:=Paired RelV
theorem Vals.length {xs:List V} {us:List Value} (r:Vals xs us):xs.length=us.length:=Paired.length r
theorem Vals.get:∀{xs:List V} {us:List Value} {i:Nat} {x:V},Vals xs us→xs[i]?=some x→∃u,us[i]?=some u∧RelV x u
 | _,_,_,_,.nil,e=>by simp at e
 | _,_,0,_,.cons r _,e=>by simp at e;subst e;exact ⟨_,rfl,r⟩
 | _,_,i+1,x,.cons _ t,e=>by
  obtain ⟨u,h1,h2⟩:=Vals.get (i:=i) (x:=x) t (by simpa using e)
  exact ⟨u,by simpa using h1,h2⟩
theorem Vals.set {x:V} {u:Value} (r:RelV x u):∀{xs:List V} {us:List Value} (i:Nat),Vals xs us→Vals (xs.set i x) (us.set i u)
 | _,_,_,.nil=>.nil
 | _,_,0,.cons _ t=>.cons r t
 | _,_,i+1,.cons q t=>.cons q (Vals.set r i t)
theorem Vals.append:∀{xs ys:List V} {us ws:List Value},Vals xs us→Vals ys ws→Vals (xs++ys) (us++ws)
 | _,_,_,_,.nil,s=>s
 | _,_,_,_,.cons r t,s=>.cons r (Vals.append t s)
theorem Vals.take:∀{xs:List V} {us:List Value} (n:Nat),Vals xs us→Vals (xs.take n) (us.take n)
 | _,_,0,_=>.nil
 | _,_,_+1,.nil=>.nil
 | _,_,n+1,.cons r t=>.cons r (Vals.take n t)
theorem Vals.drop:∀{xs:List V} {us:List Value} (n:Nat),Vals xs us→Vals (xs.drop n) (us.drop n)
 | _,_,0,r=>r
 | _,_,_+1,.nil=>.nil
 | _,_,n+1,.cons _ t=>Vals.drop n t
theorem Vals.none_of:∀{xs:List V} {us:List Value} {i:Nat},Vals xs us→xs[i]?=none→us[i]?=none:=fun {xs us i} r e=>by
 have h1:=r.length
 have h2:xs.length≤i:=om.mp e
 exact om.mpr (by omega)
def BV:Option V→Option Value→Prop
 | some v,some u=>RelV v u
 | none,none=>True
 | _,_=>False
def KV {κ:Type}:List (κ×V)→List (κ×Value)→Prop:=Paired fun (p:κ×V) (q:κ×Value)=>p.1=q.1∧RelV p.2 q.2
def kV:Key→V
 | .inl i=>.int i
 | .inr x=>.str x
inductive HO where
 | lst (xs:List V)
 | tup (xs:List V)
 | dK (jH:List (Key×V))|dT (jH:List (List Key×V))
 | set (S:Int→Bool) (n:Nat)
 | ins (C dx:Addr) (fs:List (Str×V))
 | own (x:Addr)
 | xd (fs:List (Str×V))
 | met (f x:Addr)
 | pB (lo hi:Int)
 | BW (o:Obj) (u:HO)
 | PL (ps:Array Value)
 | ext (φ:Heap→Prop)
abbrev Hp:=Addr→Option HO
def upd (H:Hp) (a:Addr) (o:HO):Hp:=fun b=>if b=a then some o else H b
theorem aK {H:Hp} {a:Addr} {o:HO}:upd H a o a=some o:=by unfold upd;rw [if_pos rfl]
theorem aM {H:Hp} {a b:Addr} {o:HO} (h:b≠a):upd H a o b=H b:=by unfold upd;rw [if_neg h]
theorem nQ {H:Hp} {a b:Addr} {o u:HO} (h:H a=some o) (h':H b=some u) (d:o≠u):a≠b:=by
 intro e;subst e;rw [h] at h';exact d (bA.inj h')
theorem bP {H:Hp} {a b:Addr} {o:HO} (h:H a=some o) (h':H b=none):a≠b:=by
 intro e;subst e;rw [h] at h';cases h'
section
variable (P:Program) (w:World)
def i6 (H:Hp) (h:Heap) (a:Addr):HO→Prop
 | .lst xs=>xs.length≤sizeLine∧∃(bR:List Value) (n:Nat),Vals xs bR∧h.get? a=some { cls:=.type "list",data:=.seq bR.toArray n }
 | .tup xs=>xs.length≤sizeLine∧∃bR:List Value,Vals xs bR∧IsTup h a bR.toArray
 | .dK jH=>jH.length≤sizeLine∧(a == sysModules)=false∧∃vs,KV jH vs∧h.DictOf (He P w) a vs
 | .dT jH=>jH.length≤sizeLine∧(a == sysModules)=false∧∃xs:List (List Key×Addr×Value),
   Paired (fun (p:List Key×V) (q:List Key×Addr×Value)=>p.1=q.1∧H q.2.1=some (.tup (p.1.map kV))∧RelV p.2 q.2.2) jH xs ∧
   ∃o es ep,h.get? a=some o∧o.ExactDict∧o.data=.dict es ep∧es.toList=xs.map (entryOfKey (tupleKind (He P w)))∧(xs.map (·.1)).Nodup
 | .set S n=>h.SetOf (intKind P w) a S n
 | .ins C dx fs=>H dx=some (.own a)∧fs.length≤1000∧dx≠a∧h.get? a=some (fN C dx) ∧
   ∃mA,h.Ns1 dx mA∧(∀f,BV (fs.lookup f) (mA f))∧PySem.Within mA (fs.map (·.1))
 | .own _=>∃o,h.get? a=some o
 | .xd fs=>∃mA,h.Ns1 a mA∧∀f,BV (fs.lookup f) (mA f)
 | .pB lo hi=>∃t u v,h.get? a=some { cls:=.type "range",data:=.fields #[.int lo t,.int hi u,.int 1 v] }
 | .BW o u=>h.get? a=some o∧i6 H h a u
 | .PL ps=>h.get? a=some { cls:=.none,data:=.fields ps }
 | .met f x=>h.get? a=some (vf (.ref f) (.ref x))
 | .ext φ=>φ h∧(∃o,h.get? a=some o)∧∀h1 h2:Heap,φ h1→(∀o,h1.get? a=some o→h2.get? a=some o)→φ h2
def sx (H:Hp) (h:Heap):Prop:=∀a o,H a=some o→i6 P w H h a o
end
section
variable {P:Program} {w:World} {H H':Hp} {h h':Heap} {a:Addr} {o:HO}
theorem i6.lt (x:i6 P w H h a o):a < h.objs.size:=by
 cases o with
 | lst xs=>obtain ⟨_,_,_,_,e⟩:=x;exact Heap.lt_size e
 | tup xs=>obtain ⟨_,_,_,p⟩:=x;exact p.lt
 | dK jH=>obtain ⟨_,_,_,_,o,_,_,e,_⟩:=x;exact Heap.lt_size e
 | dT jH=>obtain ⟨_,_,_,_,o,_,_,e,_⟩:=x;exact Heap.lt_size e
 | set S n=>obtain ⟨o,_,_,_,e,_⟩:=x;exact Heap.lt_size e
 | ins C dx fs=>obtain ⟨_,_,_,e,_⟩:=x;exact Heap.lt_size e
 | own y=>obtain ⟨_,e⟩:=x;exact Heap.lt_size e
 | xd fs=>obtain ⟨_,⟨_,_,_,e,_⟩,_⟩:=x;exact Heap.lt_size e
 | pB lo hi=>obtain ⟨_,_,_,e⟩:=x;exact Heap.lt_size e
 | BW ob u=>obtain ⟨e,_⟩:=x;exact Heap.lt_size e
 | PL ps=>exact Heap.lt_size (show h.get? a=some _ from x)
 | met f y=>exact Heap.lt_size (show h.get? a=some _ from x)
 | ext φ=>obtain ⟨_,⟨_,e⟩,_⟩:=x;exact Heap.lt_size e
theorem Paired.R7 {α β:Type} {F G:α→β→Prop}:∀{R8:List α} {l₂:List β},Paired F R8 l₂→(∀a b,F a b→G a b)→Paired G R8 l₂
 | _,_,.nil,_=>.nil
 | _,_,.cons r t,f=>.cons (f _ _ r) (Paired.R7 t f)
theorem i6.FO (x:i6 P w H h a o) (k:∀b u,(b=a∨H b=some (.own a))→h.get? b=some u→h'.get? b=some u)
  (ho:∀b,H b=some (.own a)→H' b=some (.own a)) (ht:∀b xs,H b=some (.tup xs)→H' b=some (.tup xs)):i6 P w H' h' a o:=by
 induction o with
 | lst xs=>obtain ⟨z,bR,n,r,e⟩:=x;exact ⟨z,bR,n,r,k _ _ (.inl rfl) e⟩
 | tup xs=>obtain ⟨z,bR,r,ob,e,c⟩:=x;exact ⟨z,bR,r,ob,k _ _ (.inl rfl) e,c⟩
 | dK jH=>obtain ⟨z,y,vs,r,ob,es,ep,e,c⟩:=x;exact ⟨z,y,vs,r,ob,es,ep,k _ _ (.inl rfl) e,c⟩
 | dT jH =>
  obtain ⟨z,y,xs,r,ob,es,ep,e,c⟩:=x
  exact ⟨z,y,xs,Paired.R7 r fun p q z=>⟨z.1,ht _ _ z.2.1,z.2.2⟩,ob,es,ep,k _ _ (.inl rfl) e,c⟩
 | set S n=>obtain ⟨ob,es,ep,t,e,c⟩:=x;exact ⟨ob,es,ep,t,k _ _ (.inl rfl) e,c⟩
 | ins C dx fs =>
  obtain ⟨d,z,ne,e,mA,⟨od,es,ep,e2,c⟩,r⟩:=x
  exact ⟨ho _ d,z,ne,k _ _ (.inl rfl) e,mA,⟨od,es,ep,k _ _ (.inr d) e2,c⟩,r⟩
 | own y=>obtain ⟨ob,e⟩:=x;exact ⟨ob,k _ _ (.inl rfl) e⟩
 | xd fs=>obtain ⟨mA,⟨od,es,ep,e,c⟩,r⟩:=x;exact ⟨mA,⟨od,es,ep,k _ _ (.inl rfl) e,c⟩,r⟩
 | pB lo hi=>obtain ⟨t,u,v,e⟩:=x;exact ⟨t,u,v,k _ _ (.inl rfl) e⟩
 | BW ob u ih=>obtain ⟨e,q⟩:=x;exact ⟨k _ _ (.inl rfl) e,ih q⟩
 | PL ps =>
  have e:h.get? a=some { cls:=.none,data:=.fields ps }:=x
  show h'.get? a=some { cls:=.none,data:=.fields ps }
  exact k a _ (.inl rfl) e
 | met f y =>
  have e:h.get? a=some (vf (.ref f) (.ref y)):=x
  show h'.get? a=some (vf (.ref f) (.ref y))
  exact k a _ (.inl rfl) e
 | ext φ=>obtain ⟨p,⟨o,e⟩,st⟩:=x;exact ⟨st _ _ p fun o q=>k _ _ (.inl rfl) q,⟨o,k _ _ (.inl rfl) e⟩,st⟩
theorem sx.lt (x:sx P w H h) (e:H a=some o):a < h.objs.size:=(x a o e).lt
theorem sx.fresh (x:sx P w H h) (e:h.objs.size≤a):H a=none:=by
 cases q:H a with
 | none=>rfl
 | some u=>exact absurd (bC (x.lt q) e) (eK _)
theorem sx.kept (x:sx P w H h) (k:∀b u,h.get? b=some u→h'.get? b=some u):sx P w H h':=fun a o e =>
 (x a o e).FO (fun b u _ q=>k b u q) (fun _ q=>q) fun _ _ q=>q
theorem sx.laid (x:sx P w H h) (k:∀b u,h.get? b=some u→h'.get? b=some u) (hp:h.objs.size≤a) (new:i6 P w (upd H a o) h' a o):sx P w (upd H a o) h':=fun b u e=>by
 have hn:=x.fresh hp
 by_cases hb:b=a
 ·subst hb;rw [aK] at e;cases e;exact new
 ·rw [aM hb] at e
  exact (x b u e).FO (fun c v _ q=>k c v q) (fun c q=>by rw [aM (bP q hn)];exact q) fun c xs q=>by rw [aM (bP q hn)];exact q
end
def Rd (H:Hp) (a:Addr) (u:HO):Prop:=H a=some u∨∃o,H a=some (.BW o u)
theorem Rd.ok {P:Program} {w:World} {H:Hp} {h:Heap} {a:Addr} {u:HO} (r:Rd H a u) (x:sx P w H h):i6 P w H h a u:=by
 rcases r with r|⟨o,r⟩
 ·exact x a u r
 ·obtain ⟨_,q⟩:=x a _ r
  exact q
def U6:Option HO→Prop
 | some (.lst _)=>True
 | some (.dK _)=>True
 | some (.dT _)=>True
 | some (.set _ _)=>True
 | some (.ins _ _ _)=>True
 | some (.ext _)=>True
 | _=>False
section
variable {P:Program} {w:World} {H:Hp} {h h':Heap} {x e:Addr} {o':HO}
theorem sx.write (ok:sx P w H h) (mu:U6 (H x)) (he:e=x∨H e=some (.own x)) (k:∀b u,b≠e→h.get? b=some u→h'.get? b=some u) (RO:∃u,h'.get? e=some u)
  (new:i6 P w (upd H x o') h' x o'):sx P w (upd H x o') h':=fun b u q=>by
 have R9:∀c y,H c=some (.own y)→c≠x:=fun c y r z=>by subst z;rw [r] at mu;exact mu
 have VM:∀c xs,H c=some (.tup xs)→c≠x:=fun c xs r z=>by subst z;rw [r] at mu;exact mu
 by_cases hb:b=x
 ·subst hb;rw [aK] at q;cases q;exact new
 ·rw [aM hb] at q
  by_cases PM:b=e
  ·have q':H b=some (.own x):=by
    rcases he with z|z
    ·exact absurd (PM.trans z) hb
    ·rw [PM];exact z
   rw [q] at q';cases q'
   obtain ⟨v,hv⟩:=RO
   exact ⟨v,by rw [PM];exact hv⟩
  ·refine (ok b u q).FO (fun c v hc r=>k c v ?_ r) (fun c r=>by rw [aM (R9 c b r)];exact r) fun c xs r=>by rw [aM (VM c xs r)];exact r
   rcases hc with rfl|hc
   ·exact PM
   ·rintro rfl
    rcases he with z|z
    ·exact R9 c b hc z
    ·rw [hc] at z;cases z;exact hb rfl
end
structure Un (fs ex:List Addr) (H H':Hp) (h h':Heap):Prop where
 keep:∀b o,h.get? b=some o→H b=none→b ∉ fs→b ∉ ex→h'.get? b=some o
 slot:∀b o,h.get? b=some o→H b=none→b∈fs→b ∉ ex→∃sl,h'.get? b=some { o with slots:=sl }
 free:∀b o,h.get? b=some o→H b=none→b ∉ ex→H' b=none
 there:∀b o,h.get? b=some o→b ∉ ex→∃o',h'.get? b=some o'
 DH:∀b xs,H b=some (.tup xs)→H' b=some (.tup xs)
 BX:∀b o u,H b=some (.BW o u)→H' b=some (.BW o u)
 DI:∀b ps,H b=some (.PL ps)→∃more,H' b=some (.PL (ps++more))
section
variable {fs Zk ex ex':List Addr} {H H1 H2:Hp} {h h1 h2 h':Heap} {a x e:Addr} {o:HO}
theorem Un.any (u:Un fs ex H H1 h h1) {b:Addr} {ob:Obj} (q:h.get? b=some ob) (n:H b=none) (hx:b ∉ ex):∃sl,h1.get? b=some { ob with slots:=sl }:=by
 by_cases hb:b∈fs
 ·exact u.slot b ob q n hb hx
 ·exact ⟨ob.slots,u.keep b ob q n hb hx⟩
theorem Un.kept (k:∀b u,h.get? b=some u→h'.get? b=some u):Un fs ex H H h h' :=
 ⟨fun b ob q _ _ _=>k b ob q,fun b ob q _ _ _=>⟨ob.slots,k b ob q⟩,fun _ _ _ n _=>n,fun b ob q _=>⟨ob,k b ob q⟩,fun _ _ q=>q,fun _ _ _ q=>q,fun _ ps q=>⟨#[],by rw [q];simp⟩⟩
theorem Un.refl:Un fs ex H H h h:=Un.kept fun _ _ q=>q
theorem Un.laid (k:∀b u,h.get? b=some u→h'.get? b=some u) (hp:h.objs.size≤a) (hn:H a=none):Un fs ex H (upd H a o) h h' where
 keep:=fun b u q _ _ _=>k b u q
 slot:=fun b u q _ _ _=>⟨u.slots,k b u q⟩
 free:=fun b u q n _=>by rw [aM (cF (bC (Heap.lt_size q) hp))];exact n
 there:=fun b u q _=>⟨u,k b u q⟩
 DH:=fun b xs q=>by rw [aM (bP q hn)];exact q
 BX:=fun b u xs q=>by rw [aM (bP q hn)];exact q
 DI:=fun b ps q=>⟨#[],by rw [aM (bP q hn),q];simp⟩
theorem Un.write (mu:U6 (H x)) (he:e=x∨H e=some (.own x)) (k:∀b u,b≠e→h.get? b=some u→h'.get? b=some u) (RO:∃u,h'.get? e=some u):Un fs ex H (upd H x o) h h':=by
 have hx:∀b,H b=none→b≠x:=fun b n z=>by subst z;rw [n] at mu;exact mu
 have hb:∀b,H b=none→b≠e:=fun b n z=>by
  subst z
  rcases he with r|r
  ·exact hx b n r
  ·rw [n] at r;cases r
 have hm:∀b u,H b=some u→¬U6 (some u)→b≠x:=fun b u q nm z=>by subst z;rw [q] at mu;exact nm mu
 refine ⟨fun b u q n _ _=>k b u (hb b n) q,fun b u q n _ _=>⟨u.slots,k b u (hb b n) q⟩,fun b u q n _=>by rw [aM (hx b n)];exact n,fun b u q _=>?_,
  fun b xs q=>by rw [aM (hm b _ q fun z=>z)];exact q,fun b u xs q=>by rw [aM (hm b _ q fun z=>z)];exact q,fun b ps q=>⟨#[],by rw [aM (hm b _ q fun z=>z),q];simp⟩⟩
 by_cases PM:b=e
 ·subst PM;exact RO
 ·exact ⟨u,k b u PM q⟩
end
def U7 (h:Heap) (H:Hp):List Addr:=(aq h.objs.size).filter fun a=>(H a).isSome
def BY (h:Heap) (H:Hp):Heap:=PySem.W.hideAll h (U7 h H)
theorem IU (h:Heap) (H:Hp):(BY h H).objs.size=h.objs.size:=PySem.W.hideAll_size _ _
theorem Kd {h:Heap} {H:Hp} {b:Addr} {o:Obj} (e:h.get? b=some o) (n:H b=none):(BY h H).get? b=some o :=
 PySem.W.hideAll_get _ e fun hm=>by
  have q:(H b).isSome=true:=(cN.mp hm).2
  rw [n] at q;simp at q
theorem Nf {h:Heap} {H:Hp} {b:Addr} {o:Obj} (e:(BY h H).get? b=some o):h.get? b=some o∧H b=none:=by
 have e':h.get? b=some o:=PySem.W.of_hideAll (U7 h H) e
 refine ⟨e',?_⟩
 cases q:H b with
 | none=>rfl
 | some x =>
  have hm:b∈U7 h H:=cN.mpr ⟨aS.mpr (Heap.lt_size e'),by simp [q]⟩
  have z:(BY h H).get? b=none:=PySem.W.hideAll_none (U7 h H) hm
  rw [z] at e;cases e
def Ng (g h:Heap) (L:Addr):List (Addr×Obj):=(aq h.objs.size).filterMap fun a=>if a=L∨(g.get? a).isSome=true then none else (h.get? a).map fun o=>(a,o)
def rest (g h:Heap) (L d:Addr):List (Addr×Obj):=(Ng g h L).filter fun p=>decide (p.1≠d)
end L2
namespace L2
open PySem PySem.Spec PyProof.Rows
structure Mod (K:aa) (mg:Str→Option Value) (base:Heap):Prop where
 VN:K.In base
 glob:base.Ns mainGlobals mg
 blt:∃mb,base.Ns builtinsNs mb∧∀x:Str,x ≠ "__name__" → mb x=bootBuiltins x
 nolimit:base.NoLimit
structure Cx where
 prog:Program
 w:World
 K:aa
 mg:Str→Option Value
 base:Heap
 A:Around
 N:List Str
 A9:Shared
 R_:Hp
 env:Env
 outer:List Env
 stack:List Env
 ex:List Addr
 fn:Str→Bool
 calm:Bool
 pn:List (Addr×Obj)
 xe:Value→Shared→Prop
def Ke (l:List Env):List Addr:=l.filterMap (·.frame)
abbrev Cx.fs (X:Cx):List Addr:=Ke X.outer
def OM (sc:Scope) (x:Str):Prop:=sc.names.lookup x=some .local∨sc.names.lookup x=some .cell∨sc.names.lookup x=some .free
def Loc (sc:Scope) (x:Str):Prop:=sc.names.lookup x=some .local∨sc.names.lookup x=some .cell
def Look (env:Env) (h:Heap) (m:Str→Option Value) (x:Str) (u:Value):Prop :=
 (env.kindOf x=some .local∧m x=some u)∨((env.kindOf x=some .cell∨env.kindOf x=some .free)∧∃c,env.cells.lookup x=some c∧h.IsCell c (some u))
structure Cx.Ok (X:Cx):Prop where
 mod:Mod X.K X.mg X.base
 kind:X.env.scope.kind=.function
 glob:X.env.globals=mainGlobals
 blt:X.env.builtins=builtinsNs
 above:X.A9.heap.objs.size≤X.env.locals
 inj:∀x y c,X.env.cells.lookup x=some c→X.env.cells.lookup y=some c→x=y
 has:∀x,(X.env.kindOf x=some .cell∨X.env.kindOf x=some .free)→∃c,X.env.cells.lookup x=some c
 Sa:∀x c,X.fn x=true→X.env.cells.lookup x=some c→X.A9.heap.objs.size≤c
 hd:X.calm=true→X.A.handled=none
 frames:X.A.frames=some X.stack
 U8:X.stack=X.outer∨(X.stack=X.env::X.outer∧X.env.frame=some X.env.locals)
 U9:∀b∈X.ex,b≠X.env.locals∧∀x c,X.env.cells.lookup x=some c→c≠b
 bs:∀b o,X.base.get? b=some o→X.A9.heap.get? b=some o∧X.R_ b=none
 Kf:X.base.objs.size≤X.A9.heap.objs.size
 Kg:∀b o,X.base.get? b=some o→b ∉ X.ex
 Kh:∀b∈X.ex,b ∉ X.fs
 uf:X.A9.heap.FunFrames X.base X.outer
 ON:∀b∈X.fs,X.R_ b=none
structure Inv (X:Cx) (pins:List (Addr×Obj)) (σ:List (Option V)) (H:Hp) (s:Shared):Prop where
 ok:X.Ok
 os:s.os=X.A9.os
 bare:AllBare s.gens
 base:Un X.fs X.ex X.R_ H X.A9.heap s.heap
 loc:∃m,s.heap.Ns X.env.locals m∧∀(i:Nat) (x:Str) (v:V),X.N[i]?=some x→σ[i]?=some (some v)→OM X.env.scope x→∃u,RelV v u∧Look X.env s.heap m x u
 cell:∀x c,X.env.cells.lookup x=some c→∃v,s.heap.IsCell c v
 free:H X.env.locals=none
 pM:∀x c,X.env.cells.lookup x=some c→H c=none
 pin:∀p∈X.pn++pins,s.heap.get? p.1=some p.2∧H p.1=none∧p.1≠X.env.locals∧p.1 ∉ X.fs∧∀v,p.2.data≠.cell v
 fR:sx X.prog X.w H s.heap
 len:σ.length=X.N.length
section
variable {X:Cx} {pins:List (Addr×Obj)} {σ:List (Option V)} {H H':Hp} {s:Shared} {h':Heap}
theorem Cx.Ok.VO (ok:X.Ok) {b:Addr} {o:Obj} (e:X.base.get? b=some o):b ∉ X.fs:=fun hb=>by
 have:=(ok.uf.mem hb).1
 rw [e] at this;cases this
theorem Inv.bs (I:Inv X pins σ H s):∀b o,X.base.get? b=some o→s.heap.get? b=some o∧H b=none:=fun b o e =>
 ⟨I.base.keep b o (I.ok.bs b o e).1 (I.ok.bs b o e).2 (I.ok.VO e) (I.ok.Kg b o e),I.base.free b o (I.ok.bs b o e).1 (I.ok.bs b o e).2 (I.ok.Kg b o e)⟩
theorem Inv.bk (I:Inv X pins σ H s):∀b o,X.base.get? b=some o→s.heap.get? b=some o:=fun b o e=>(I.bs b o e).1
theorem Inv.mod (I:Inv X pins σ H s):Mod X.K X.mg X.base:=I.ok.mod
theorem Inv.Ki (I:Inv X pins σ H s):X.K.In s.heap:=I.ok.mod.VN.keeps I.bk
theorem Inv.nolimit (I:Inv X pins σ H s):s.heap.NoLimit:=I.ok.mod.nolimit.keeps I.bk
theorem Inv.fr (I:Inv X pins σ H s):∃m,Fr X.base X.env.locals s.heap m :=
 let ⟨m,hn,_⟩:=I.loc
 ⟨m,hn,I.bk,aO I.ok.Kf I.ok.above⟩
theorem Inv.lt (I:Inv X pins σ H s):X.env.locals < s.heap.objs.size:=let ⟨_,hn,_⟩:=I.loc;hn.lt
theorem Inv.sz (I:Inv X pins σ H s):X.A9.heap.objs.size≤s.heap.objs.size:=aO I.ok.above (JX I.lt)
theorem Inv.VP (I:Inv X pins σ H s) {a:Addr} (h:s.heap.objs.size≤a):a ∉ X.fs:=fun hb=>by
 obtain ⟨_,o,ho,_⟩:=I.ok.uf.mem hb
 exact absurd (bC (Heap.lt_size ho) (aO I.sz h)) (eK _)
theorem Inv.PN (I:Inv X pins σ H s):∀x c,X.env.cells.lookup x=some c→c≠X.env.locals:=fun x c e z=>by
 obtain ⟨v,o,ho,hd⟩:=I.cell x c e
 obtain ⟨m,⟨o',es,ep,MQ,VQ,_⟩,_⟩:=I.loc
 rw [z,MQ] at ho;cases ho;rw [VQ] at hd;cases hd
theorem Inv.uf (I:Inv X pins σ H s):s.heap.FunFrames X.base X.outer:=by
 have all:∀(l:List Env),(∀b∈Ke l,b∈X.fs)→X.A9.heap.FunFrames X.base l→s.heap.FunFrames X.base l:=by
  intro l
  induction l with
  | nil=>intro _ _;trivial
  | cons env r ih =>
   intro hs hl
   obtain ⟨hk,⟨L,o,hf,hn,ho,hd⟩,hr⟩:=hl
   have hL:L∈X.fs:=hs L (by unfold Ke;rw [dW,hf];exact cj)
   obtain ⟨sl,e⟩:=I.base.slot L o ho (I.ok.ON L hL) hL fun z=>I.ok.Kh L z hL
   exact ⟨hk,⟨L,_,hf,hn,e,hd⟩,ih (fun b hb=>hs b (by unfold Ke;rw [dW,hf];exact bq _ hb)) hr⟩
 exact all X.outer (fun _ hb=>hb) I.ok.uf
theorem Inv.stack (I:Inv X pins σ H s):s.heap.FunFrames X.base X.stack:=by
 rcases I.ok.U8 with e|⟨e,hf⟩
 ·rw [e];exact I.uf
 ·rw [e]
  obtain ⟨m,hn,_⟩:=I.loc
  refine .cons (by rw [I.ok.kind];decide) hf hn ?_ I.uf
  exact Heap.get?_none_of_le (aO I.ok.Kf I.ok.above)
theorem Inv.FP (I:Inv X pins σ H s):∀b∈Ke X.stack,b∈X.env.locals::X.fs:=fun b hb=>by
 rcases I.ok.U8 with e|⟨e,hf⟩
 ·rw [e] at hb;exact bq _ hb
 ·rw [e] at hb
  unfold Ke at hb
  rw [dW,hf] at hb
  exact hb
theorem Inv.Hf (I:Inv X pins σ H s):∀b∈Ke X.stack,H b=none:=fun b hb=>by
 rcases aF.mp (I.FP b hb) with e|hb
 ·rw [e];exact I.free
 ·obtain ⟨_,o,ho,_⟩:=I.ok.uf.mem hb
  exact I.base.free b o ho (I.ok.ON b hb) fun z=>I.ok.Kh b z hb
theorem Inv.step {g':Array GenState} {t':Nat} {d':Drawn} {ch:List Addr} (I:Inv X pins σ H s)
  (J4:∀b∈ch,(b∈X.ex∨X.A9.heap.objs.size≤b)∧b≠X.env.locals∧(∀x c,X.env.cells.lookup x=some c→c≠b)∧∀p∈X.pn++pins,p.1≠b)
  (keep:∀b o,b≠X.env.locals→b ∉ X.fs→b ∉ ch→s.heap.get? b=some o→H b=none→h'.get? b=some o)
  (slot:∀b o,b≠X.env.locals→b∈X.fs→b ∉ ch→s.heap.get? b=some o→H b=none→∃sl,h'.get? b=some { o with slots:=sl }) (free:∀b o,b ∉ ch→s.heap.get? b=some o→H b=none→H' b=none)
  (there:∀b o,b ∉ ch→s.heap.get? b=some o→∃o',h'.get? b=some o')
  (DH:∀b xs,H b=some (.tup xs)→H' b=some (.tup xs)) (BX:∀b o u,H b=some (.BW o u)→H' b=some (.BW o u)) (DI:∀b ps,H b=some (.PL ps)→∃more,H' b=some (.PL (ps++more)))
  (ns:∀m,s.heap.Ns X.env.locals m→h'.Ns X.env.locals m) (fR:sx X.prog X.w H' h') (hg:AllBare g') :
  Inv X pins σ H' { s with heap:=h',gens:=g',drawn:=d',toks:=t' }:=by
 have Yb:∀b o,X.A9.heap.get? b=some o→b≠X.env.locals:=fun b o e=>cF (bC (Heap.lt_size e) I.ok.above)
 have U_:∀b o,X.A9.heap.get? b=some o→b ∉ X.ex→b ∉ ch:=fun b o e hx hb=>by
  rcases (J4 b hb).1 with z|z
  ·exact hx z
  ·exact absurd (bC (Heap.lt_size e) z) (eK _)
 have cellK:∀x c,X.env.cells.lookup x=some c→∀v,s.heap.IsCell c v→h'.IsCell c v:=fun x c e v ⟨o,ho,hd⟩=>by
  have Sb:c ∉ ch:=fun z=>(J4 c z).2.2.1 x c e rfl
  by_cases hc:c∈X.fs
  ·obtain ⟨sl,q⟩:=slot c o (I.PN x c e) hc Sb ho (I.pM x c e)
   exact ⟨_,q,hd⟩
  ·exact ⟨o,keep c o (I.PN x c e) hc Sb ho (I.pM x c e),hd⟩
 refine ⟨I.ok,I.os,hg,⟨fun b o e n hb hx=>?_,fun b o e n hb hx=>?_,fun b o e n hx=>?_,fun b o e hx=>?_,fun b xs e=>DH b xs (I.base.DH b xs e),fun b o xs e=>BX b o xs (I.base.BX b o xs e),fun b ps e=>?_⟩,?_,fun x c e=>?_,?_,fun x c e=>?_,fun p hp=>?_,fR,I.len⟩
 ·exact keep b o (Yb b o e) hb (U_ b o e hx) (I.base.keep b o e n hb hx) (I.base.free b o e n hx)
 ·obtain ⟨sl,e1⟩:=I.base.slot b o e n hb hx
  obtain ⟨Zl,e2⟩:=slot b _ (Yb b o e) hb (U_ b o e hx) e1 (I.base.free b o e n hx)
  exact ⟨Zl,e2⟩
 ·obtain ⟨o',e1⟩:=I.base.there b o e hx
  exact free b o' (U_ b o e hx) e1 (I.base.free b o e n hx)
 ·obtain ⟨o',e1⟩:=I.base.there b o e hx
  exact there b o' (U_ b o e hx) e1
 ·obtain ⟨m1,e1⟩:=I.base.DI b ps e
  obtain ⟨m2,e2⟩:=DI b _ e1
  exact ⟨m1++m2,by rw [e2,Array.append_assoc]⟩
 ·obtain ⟨m,hn,hl⟩:=I.loc
  refine ⟨m,ns m hn,fun i x v e1 e2 e3=>?_⟩
  obtain ⟨u,r,l⟩:=hl i x v e1 e2 e3
  refine ⟨u,r,?_⟩
  rcases l with l|⟨k,c,e,z⟩
  ·exact .inl l
  ·exact .inr ⟨k,c,e,cellK x c e _ z⟩
 ·obtain ⟨v,z⟩:=I.cell x c e
  exact ⟨v,cellK x c e v z⟩
 ·obtain ⟨m,⟨o,_,_,ho,_⟩,_⟩:=I.loc
  exact free _ o (fun z=>(J4 _ z).2.1 rfl) ho I.free
 ·obtain ⟨v,o,ho,hd⟩:=I.cell x c e
  exact free c o (fun z=>(J4 c z).2.2.1 x c e rfl) ho (I.pM x c e)
 ·obtain ⟨e,n,ne,nf,d⟩:=I.pin p hp
  have Sb:p.1 ∉ ch:=fun z=>(J4 p.1 z).2.2.2 p hp rfl
  exact ⟨keep p.1 p.2 ne nf Sb e n,free p.1 p.2 Sb e n,ne,nf,d⟩
theorem Inv.un {t':Nat} (I:Inv X pins σ H s) (u:Un X.fs [] H H' s.heap h') (fR:sx X.prog X.w H' h'):Inv X pins σ H' { s with heap:=h',toks:=t' }:=by
 obtain ⟨m,⟨o,es,ep,ho,r⟩,_⟩:=id I.loc
 obtain ⟨sl,hL⟩:=u.any ho I.free (by simp)
 exact I.step (g':=s.gens) (d':=s.drawn) (ch:=[]) (fun _ z=>nomatch z) (fun b o _ hb _ e n=>u.keep b o e n hb (by simp)) (fun b o _ hb _ e n=>u.slot b o e n hb (by simp)) (fun b o _ e n=>u.free b o e n (by simp)) (fun b o _ e=>u.there b o e (by simp)) u.DH u.BX u.DI (fun m' hm=>by
  obtain ⟨o',RP,VR,MQ,r'⟩:=hm
  rw [ho] at MQ;cases MQ
  exact ⟨_,RP,VR,hL,r'⟩) fR I.bare
theorem Inv.call {g':Array GenState} {t':Nat} {d':Drawn} {ch:List Addr} (I:Inv X pins σ H s) (u:Un (Ke X.stack) ch H H' s.heap h') (fR:sx X.prog X.w H' h') (hg:AllBare g')
  (J4:∀b∈ch,(b∈X.ex∨X.A9.heap.objs.size≤b)∧b≠X.env.locals∧(∀x c,X.env.cells.lookup x=some c→c≠b)∧∀p∈X.pn++pins,p.1≠b) :
  Inv X pins σ H' { s with heap:=h',gens:=g',drawn:=d',toks:=t' }:=by
 obtain ⟨m,⟨o,es,ep,ho,r⟩,_⟩:=id I.loc
 obtain ⟨sl,hL⟩:=u.any ho I.free fun z=>(J4 _ z).2.1 rfl
 exact I.step (ch:=ch) J4 (fun b o hL hb hc e n=>u.keep b o e n (fun z=>(aF.mp (I.FP b z)).elim hL hb) hc) (fun b o _ _ hc e n=>u.any e n hc) (fun b o hc e n=>u.free b o e n hc) (fun b o hc e=>u.there b o e hc) u.DH u.BX u.DI (fun m' hm=>by
  obtain ⟨o',RP,VR,MQ,r'⟩:=hm
  rw [ho] at MQ;cases MQ
  exact ⟨_,RP,VR,hL,r'⟩) fR hg
theorem Inv.turned {t':Nat} {it:Addr} (I:Inv X pins σ H s) (k:∀b o,b≠it→s.heap.get? b=some o→h'.get? b=some o) (hn:H it=none) (hL:it≠X.env.locals)
  (h1:it∈X.ex∨X.A9.heap.objs.size≤it) (h2:∀x c,X.env.cells.lookup x=some c→c≠it) (h3:∀p∈X.pn++pins,p.1≠it):Inv X pins σ H { s with heap:=h',toks:=t' }:=by
 have OO:∀b u,H b=some u→b≠it:=fun b u e z=>by rw [z,hn] at e;cases e
 refine I.step (g':=s.gens) (d':=s.drawn) (ch:=[it]) (fun b hb=>?_) (fun b o _ _ hc e _=>k b o (fun z=>hc (by simp [z])) e) (fun b o _ _ hc e _=>⟨o.slots,k b o (fun z=>hc (by simp [z])) e⟩) (fun _ _ _ _ n=>n)
  (fun b o hc e=>⟨o,k b o (fun z=>hc (by simp [z])) e⟩) (fun _ _ e=>e) (fun _ _ _ e=>e) (fun b ps e=>⟨#[],by rw [e];simp⟩) (fun m hm=>?_) (fun b u e=>?_) I.bare
 ·have e:b=it:=by simpa using hb
  subst e
  exact ⟨h1,hL,h2,h3⟩
 ·obtain ⟨o,es,ep,ho,r⟩:=hm
  exact ⟨o,es,ep,k _ o (Ne.symm hL) ho,r⟩
 ·refine (I.fR b u e).FO (fun c v hc q=>k c v ?_ q) (fun _ q=>q) fun _ _ q=>q
  rcases hc with z|z
  ·rw [z];exact OO b u e
  ·exact OO c _ z
theorem Inv.tok (I:Inv X pins σ H s) (t:Nat):Inv X pins σ H { s with toks:=t }:=I.un (h':=s.heap) (t':=t) Un.refl I.fR
theorem Inv.kept {t':Nat} (I:Inv X pins σ H s) (k:∀b u,s.heap.get? b=some u→h'.get? b=some u):Inv X pins σ H { s with heap:=h',toks:=t' }:=I.un (Un.kept k) (I.fR.kept k)
theorem Inv.laid {a:Addr} {o:HO} {t':Nat} (I:Inv X pins σ H s) (k:∀b u,s.heap.get? b=some u→h'.get? b=some u) (hp:s.heap.objs.size≤a) (new:i6 X.prog X.w (upd H a o) h' a o) :
  Inv X pins σ (upd H a o) { s with heap:=h',toks:=t' }:=I.un (Un.laid k hp (I.fR.fresh hp)) (I.fR.laid k hp new)
theorem Inv.write {x e:Addr} {o:HO} {t':Nat} (I:Inv X pins σ H s) (mu:U6 (H x)) (he:e=x∨H e=some (.own x)) (k:∀b u,b≠e→s.heap.get? b=some u→h'.get? b=some u) (RO:∃u,h'.get? e=some u)
  (new:i6 X.prog X.w (upd H x o) h' x o):Inv X pins σ (upd H x o) { s with heap:=h',toks:=t' }:=I.un (Un.write mu he k RO) (I.fR.write mu he k RO new)
theorem Inv.weak {fb:List (Option V)} (I:Inv X pins σ H s) (hl:fb.length=σ.length) (w:∀(i:Nat) v,fb[i]?=some (some v)→σ[i]?=some (some v)):Inv X pins fb H s :=
 ⟨I.ok,I.os,I.bare,I.base,let ⟨m,hn,Zm⟩:=I.loc;⟨m,hn,fun i x v e1 e2 e3=>Zm i x v e1 (w i v e2) e3⟩,I.cell,I.free,I.pM,I.pin,I.fR,hl.trans I.len⟩
theorem Inv.Hg {OP:List (Addr×Obj)} (I:Inv X pins σ H s) (h:∀p∈OP,s.heap.get? p.1=some p.2∧H p.1=none∧p.1≠X.env.locals∧p.1 ∉ X.fs∧∀v,p.2.data≠.cell v):Inv X OP σ H s :=
 ⟨I.ok,I.os,I.bare,I.base,I.loc,I.cell,I.free,I.pM,fun p hp=>(bE.mp hp).elim (fun z=>I.pin p (J9 _ z)) (h p),I.fR,I.len⟩
theorem xE {N:List Str} (hN:N.Nodup) {i j:Nat} {x:Str} (a:N[i]?=some x) (b:N[j]?=some x):i=j:=by
 obtain ⟨h1,e1⟩:=cw.mp a
 obtain ⟨h2,e2⟩:=cw.mp b
 exact (List.getElem_inj hN).mp (e1.trans e2.symm)
theorem A_ {M:Model} {A:Around} {E:Value→Shared→Prop} {i:Nat} {x:Str} {v:V} {u:Value} {Q:Unit→Shared→Prop} (I:Inv X pins σ H s) (hN:X.N.Nodup) (hi:X.N[i]?=some x) (hx:Loc X.env.scope x) (r:RelV v u)
  (h:∀s',Inv X pins (σ.set i (some v)) H s'→(∃a,Heap.SameBut a s.heap s'.heap∧(a=X.env.locals∨X.env.cells.lookup x=some a))→Q () s') (hf:X.fn x=true∨X.env.scope.names.lookup x=some .local:=by first|exact .inl rfl|exact .inr rfl|assumption):wpAny M A (storeName X.env x u) Q E s:=by
 obtain ⟨m,hn,hl⟩:=id I.loc
 have VS:(X.env.scope.kind == .class||(X.env.scope.kind == .module&&X.env.locals != X.env.globals))=false:=by rw [I.ok.kind];rfl
 have Sd:i < σ.length:=by rw [I.len];exact (cw.mp hi).1
 have PN:=I.PN
 have tracked:∀{a:Addr} {h':Heap},(∃o,s.heap.get? a=some o∧H a=none)→Heap.SameBut a s.heap h'→sx X.prog X.w H h':=fun {a h'} ha hs b ob e=>by
  obtain ⟨_,_,vm⟩:=ha
  refine (I.fR b ob e).FO (fun c w' hc q=>(hs.2 c ?_).trans q) (fun _ q=>q) fun _ _ q=>q
  rintro rfl
  rcases hc with rfl|hc
  ·rw [vm] at e;cases e
  ·rw [vm] at hc;cases hc
 rcases hx with hk|hk
 ·refine wpAny_storeName_local hk hn (fun h' Zn hs=>?_) VS
  obtain ⟨oL,_,_,Zo,_⟩:=id hn
  refine h _ ⟨I.ok,I.os,I.bare,⟨fun b o e n hb hx=>?_,fun b o e n hb hx=>?_,I.base.free,fun b o e hx=>?_,I.base.DH,I.base.BX,I.base.DI⟩,⟨_,Zn,fun j y v' e1 e2 e3=>?_⟩,fun y c e=>?_,I.free,I.pM,fun p hp=>?_,tracked ⟨oL,Zo,I.free⟩ hs,by simpa using I.len⟩ ⟨_,hs,.inl rfl⟩
  ·exact (hs.2 b (cF (bC (Heap.lt_size e) I.ok.above))).trans (I.base.keep b o e n hb hx)
  ·obtain ⟨sl,e1⟩:=I.base.slot b o e n hb hx
   exact ⟨sl,(hs.2 b (cF (bC (Heap.lt_size e) I.ok.above))).trans e1⟩
  ·obtain ⟨o',e1⟩:=I.base.there b o e hx
   exact ⟨o',(hs.2 b (cF (bC (Heap.lt_size e) I.ok.above))).trans e1⟩
  ·by_cases hj:j=i
   ·subst hj
    rw [hi] at e1;cases e1
    rw [b6 Sd] at e2
    cases e2
    exact ⟨u,r,.inl ⟨hk,by simp⟩⟩
   ·rw [bg (Ne.symm hj)] at e2
    obtain ⟨u',r',q⟩:=hl j y v' e1 e2 e3
    refine ⟨u',r',?_⟩
    rcases q with ⟨k,e⟩|⟨k,c,e,z⟩
    ·refine .inl ⟨k,?_⟩
     have:y≠x:=fun e=>hj (xE hN e1 (e▸hi))
     simp [this,e]
    ·exact .inr ⟨k,c,e,z.sameBut hs (PN y c e)⟩
  ·obtain ⟨w',z⟩:=I.cell y c e
   exact ⟨w',z.sameBut hs (PN y c e)⟩
  ·obtain ⟨e,n,ne,nf,d⟩:=I.pin p hp
   exact ⟨(hs.2 p.1 ne).trans e,n,ne,nf,d⟩
 ·have VT:X.fn x=true:=by
   rcases hf with z|z
   ·exact z
   ·rw [z] at hk;cases hk
  obtain ⟨c,hc⟩:=I.ok.has x (.inl hk)
  obtain ⟨w',z⟩:=I.cell x c hc
  refine wpAny_storeName_cell I.ok.kind hk hc z (fun h' Va hs=>?_)
  obtain ⟨oc,Yc,VU⟩:=id z
  refine h { s with heap:=h' } ⟨I.ok,I.os,I.bare,⟨fun b o e n hb hx=>?_,fun b o e n hb hx=>?_,I.base.free,fun b o e hx=>?_,I.base.DH,I.base.BX,I.base.DI⟩,⟨m,hn.sameBut hs (Ne.symm (PN x c hc)),fun j y v' e1 e2 e3=>?_⟩,fun y c' e=>?_,I.free,I.pM,fun p hp=>?_,tracked ⟨oc,Yc,I.pM x c hc⟩ hs,by simpa using I.len⟩ ⟨c,hs,.inr hc⟩
  ·exact (hs.2 b (cF (bC (Heap.lt_size e) (I.ok.Sa x c VT hc)))).trans (I.base.keep b o e n hb hx)
  ·obtain ⟨sl,e1⟩:=I.base.slot b o e n hb hx
   exact ⟨sl,(hs.2 b (cF (bC (Heap.lt_size e) (I.ok.Sa x c VT hc)))).trans e1⟩
  ·obtain ⟨o',e1⟩:=I.base.there b o e hx
   exact ⟨o',(hs.2 b (cF (bC (Heap.lt_size e) (I.ok.Sa x c VT hc)))).trans e1⟩
  ·by_cases hj:j=i
   ·subst hj
    rw [hi] at e1;cases e1
    rw [b6 Sd] at e2
    cases e2
    exact ⟨u,r,.inr ⟨.inl hk,c,hc,Va⟩⟩
   ·rw [bg (Ne.symm hj)] at e2
    obtain ⟨u',r',q⟩:=hl j y v' e1 e2 e3
    refine ⟨u',r',?_⟩
    rcases q with q|⟨k,c',e,z'⟩
    ·exact .inl q
    ·refine .inr ⟨k,c',e,z'.sameBut hs ?_⟩
     rintro rfl
     exact hj (xE hN e1 (I.ok.inj _ _ _ e hc▸hi))
  ·by_cases Yd:c'=c
   ·subst Yd;exact ⟨_,Va⟩
   ·obtain ⟨w2,z2⟩:=I.cell y c' e
    exact ⟨w2,z2.sameBut hs Yd⟩
  ·obtain ⟨e,n,ne,nf,d⟩:=I.pin p hp
   refine ⟨(hs.2 p.1 ?_).trans e,n,ne,nf,d⟩
   intro q
   rw [q,Yc] at e
   have q':oc=p.2:=bA.inj e
   exact d w' (by rw [←q'];exact VU)
theorem xF {M:Model} {A:Around} {E:Value→Shared→Prop} {i:Nat} {x:Str} {v:V} {u:Value} {Q:Unit→Shared→Prop} (I:Inv X pins σ H s) (hN:X.N.Nodup) (hi:X.N[i]?=some x) (hx:Loc X.env.scope x) (r:RelV v u)
  (h:∀s',Inv X pins (σ.set i (some v)) H s'→Q () s') (hf:X.fn x=true∨X.env.scope.names.lookup x=some .local:=by first|exact .inl rfl|exact .inr rfl|assumption):wpAny M A (storeName X.env x u) Q E s :=
 A_ I hN hi hx r (fun s' I' _=>h s' I') hf
theorem Inv.Se {s':Shared} {ch:List Addr} (I:Inv X pins σ H s) (ho:s'.os=s.os) (u:Un (Ke X.stack) ch H H' s.heap s'.heap) (fR:sx X.prog X.w H' s'.heap) (hg:AllBare s'.gens)
  (J4:∀b∈ch,(b∈X.ex∨X.A9.heap.objs.size≤b)∧b≠X.env.locals∧(∀x c,X.env.cells.lookup x=some c→c≠b)∧∀p∈X.pn++pins,p.1≠b):Inv X pins σ H' s':=by
 obtain ⟨h',g',d',t',o'⟩:=s'
 have e:o'=s.os:=ho
 subst e
 exact I.call (g':=g') (t':=t') (d':=d') u fR hg J4
end
abbrev XK:=Value→Option Addr→Hp→Prop
abbrev St:=List (Option V)
abbrev VK:=V→Hp→Prop
abbrev TE:=St→Hp→VK→Prop
abbrev TT:=St→Hp→(Bool→Hp→Prop)→Prop
abbrev TA:=St→Hp→(List V→Hp→Prop)→Prop
structure Ends where
 nx:St→Hp→Prop
 rt:VK
 bk:St→Hp→Prop:=fun _ _=>False
 ct:St→Hp→Prop:=fun _ _=>False
abbrev TS:=Ends→St→Hp→Prop
def EP (X:Cx) (pins:List (Addr×Obj)) (σ:St) (Q:VK) (u:Value) (s':Shared):Prop:=∃v H',Inv X pins σ H' s'∧RelV v u∧Q v H'
def TP (X:Cx) (pins:List (Addr×Obj)) (σ:St) (Q:Bool→Hp→Prop) (b:Bool) (s':Shared):Prop:=∃H',Inv X pins σ H' s'∧Q b H'
def AP (X:Cx) (pins:List (Addr×Obj)) (σ:St) (Q:List V→Hp→Prop) (us:List Value) (s':Shared):Prop:=∃vs H',Inv X pins σ H' s'∧Vals vs us∧Q vs H'
def SP (X:Cx) (pins:List (Addr×Obj)) (D:Ends) (f:Flow) (s':Shared):Prop :=
 match f with
 | .next=>∃fb H',Inv X pins fb H' s'∧D.nx fb H'
 | .brk=>∃fb H',Inv X pins fb H' s'∧D.bk fb H'
 | .cont=>∃fb H',Inv X pins fb H' s'∧D.ct fb H'
 | .ret u=>∃v fb H',Inv X pins fb H' s'∧RelV v u∧D.rt v H'
def PE (X:Cx) (e:Expr) (t:TE):Prop :=
 ∀(pins:List (Addr×Obj)) (s:Shared) (σ:St) (H:Hp) (Q:VK),Inv X pins σ H s→t σ H Q→wpAny (model X.prog X.w) X.A (eval e X.env) (EP X pins σ Q) X.xe s
def PT (X:Cx) (e:Expr) (t:TT):Prop :=
 ∀(pins:List (Addr×Obj)) (s:Shared) (σ:St) (H:Hp) (Q:Bool→Hp→Prop),Inv X pins σ H s→t σ H Q→wpAny (model X.prog X.w) X.A (isTrue e X.env (eval e X.env)) (TP X pins σ Q) X.xe s
def PW (X:Cx) (e:Expr) (t:TT):Prop :=
 ∀(whole:Sem Value) (pins:List (Addr×Obj)) (s:Shared) (σ:St) (H:Hp) (Q:Bool→Hp→Prop),Inv X pins σ H s→t σ H Q→wpAny (model X.prog X.w) X.A (isTrue e X.env whole) (TP X pins σ Q) X.xe s
theorem PW.pt {X:Cx} {e:Expr} {t:TT} (h:PW X e t):PT X e t:=h _
def PA (X:Cx) (es:List Expr) (t:TA):Prop :=
 ∀(pos:Pos) (pins:List (Addr×Obj)) (s:Shared) (σ:St) (H:Hp) (Q:List V→Hp→Prop),Inv X pins σ H s→t σ H Q→wpAny (model X.prog X.w) X.A (spliced (backTo pos (starEach es X.env))) (AP X pins σ Q) X.xe s
def PS (X:Cx) (st:Stmt) (t:TS):Prop :=
 ∀(pins:List (Addr×Obj)) (s:Shared) (σ:St) (H:Hp) (D:Ends),Inv X pins σ H s→t D σ H→wpAny (model X.prog X.w) X.A (exec st X.env) (SP X pins D) X.xe s
def vO (X:Cx) (st:List Stmt) (t:TS):Prop :=
 ∀(pins:List (Addr×Obj)) (s:Shared) (σ:St) (H:Hp) (D:Ends),Inv X pins σ H s→t D σ H→wpAny (model X.prog X.w) X.A (execs st X.env) (SP X pins D) X.xe s
theorem gX {α:Type} {t:Sem α} {Q Q':α→Shared→Prop} {M:Model} {A:Around} {E:Value→Shared→Prop} {s:Shared} (h:wpAny M A t Q E s) (hQ:∀a s,Q a s→Q' a s):wpAny M A t Q' E s:=wpAny_mono h hQ fun _ _ x=>x
end L2
namespace L2
open PySem PySem.Spec PyProof.Rows
section
variable {X:Cx}
theorem bin {a b:Expr} {ta tb:TE} (ha:PE X a ta) (hb:PE X b tb) {pins:List (Addr×Obj)} {s:Shared} {σ:St} {H:Hp} {R:V→V→Hp→Prop} (I:Inv X pins σ H s) (h:ta σ H fun x H1=>tb σ H1 fun y H2=>R x y H2)
  {α:Type} {Q:α→Shared→Prop} {f:Value→Value→Sem α}
  (hf:∀v u s2 x y H2,Inv X pins σ H2 s2→RelV x v→RelV y u→R x y H2→wpAny (model X.prog X.w) X.A (f v u) Q X.xe s2) :
  wpAny (model X.prog X.w) X.A (eval a X.env) (fun v ft=>wpAny (model X.prog X.w) X.A (eval b X.env) (fun u pN=>wpAny (model X.prog X.w) X.A (f v u) Q X.xe pN) X.xe ft) X.xe s:=by
 refine gX (ha pins s σ H _ I h) fun v s1 ⟨x,H1,I1,r1,q1⟩=>?_
 refine gX (hb pins s1 σ H1 _ I1 q1) fun u s2 ⟨y,H2,I2,r2,q2⟩=>?_
 exact hf v u s2 x y H2 I2 r1 r2 q2
def rQ (i:Nat):TE:=fun σ H Q=>∃v,σ[i]?=some (some v)∧Q v H
def tC (v:V):TE:=fun _ H Q=>Q v H
theorem BZ {i:Nat} {x:Str} {pos:Pos} (hN:X.N[i]?=some x) (hv:OM X.env.scope x) (hd:(x == ("__debug__" : Str))=false:=by decide) (Kj:(x == ("__classdict__" : Str))=false:=by decide):PE X (.Name x pos) (rQ i):=by
 intro pins s σ H Q I h
 obtain ⟨v,e,h⟩:=h
 obtain ⟨m,hn,hl⟩:=I.loc
 obtain ⟨u,r,l⟩:=hl i x v hN e hv
 have fin:EP X pins σ Q u s:=⟨v,H,I,r,h⟩
 rcases l with ⟨hk,hm⟩|⟨hk,c,hc,Hh⟩
 ·exact wpAny_Name (wpAny_loadName_local I.ok.kind hk hn hm fin) hd
 ·rcases hk with hk|hk
  ·exact wpAny_Name (wpAny_loadName_cell I.ok.kind hk hc Hh fin) hd
  ·exact wpAny_Name (wpAny_loadName_free I.ok.kind hk hc Hh fin Kj) hd
theorem rR {i j pos}:PE X (.Constant (.int i) j pos) (tC (.int i)):=fun _ _ _ H _ I h=>wpAny_Constant_int ⟨.int i,H,I.tok _,⟨_,rfl⟩,h⟩
theorem Sf {b j pos}:PE X (.Constant (.bool b) j pos) (tC (.bl b)):=fun _ _ _ H _ I h=>Constant_bool ⟨.bl b,H,I,rfl,h⟩
theorem PQ {j pos}:PE X (.Constant .none j pos) (tC .gg):=fun _ _ _ H _ I h=>Constant_none ⟨.gg,H,I,rfl,h⟩
def Gl (X:Cx) (x:Str):Prop:=X.env.kindOf x=some .globalImplicit
theorem B0 {E:Value→Shared→Prop} {pins:List (Addr×Obj)} {s:Shared} {σ:St} {H:Hp} {x:Str} {u:Value} {pos:Pos} {Q:Value→Shared→Prop} (I:Inv X pins σ H s) (hg:Gl X x) (hm:X.mg x=some u) (h:Q u s)
  (hd:(x == ("__debug__" : Str))=false:=by decide):wpAny (model X.prog X.w) X.A (eval (.Name x pos) X.env) Q E s :=
 Calls.Name_function_global I.ok.kind hg (Calls.loadGlobal_global (by rw [I.ok.glob];exact I.mod.glob.keeps I.bk) hm h) hd
theorem oo {E:Value→Shared→Prop} {pins:List (Addr×Obj)} {s:Shared} {σ:St} {H:Hp} {x:Str} {u:Value} {pos:Pos} {Q:Value→Shared→Prop} (I:Inv X pins σ H s) (hg:Gl X x) (hm:X.mg x=none) (hv:bootBuiltins x=some u) (h:Q u s)
  (hn:x ≠ "__name__" := by decide) (hd:(x == ("__debug__" : Str))=false:=by decide):wpAny (model X.prog X.w) X.A (eval (.Name x pos) X.env) Q E s:=by
 obtain ⟨mb,h1,h2⟩:=I.mod.blt
 exact Calls.Name_function_global I.ok.kind hg (Calls.loadGlobal_builtin (by rw [I.ok.glob];exact I.mod.glob.keeps I.bk) hm (by rw [I.ok.blt];exact h1.keeps I.bk) ((h2 x hn).trans hv) h) hd
theorem Nh {x:Str} {v:V} {u:Value} {pos:Pos} (hg:Gl X x) (hm:X.mg x=some u) (r:RelV v u) (hd:(x == ("__debug__" : Str))=false:=by decide):PE X (.Name x pos) (tC v) :=
 fun _ _ _ H _ I h=>B0 I hg hm ⟨v,H,I,r,h⟩ hd
variable {a b:Expr} {ta tb:TE} {pos:Pos}
def PC (X:Cx) (op:CmpOp) (a b:Expr) (t:TE):Prop :=
 ∀(pins:List (Addr×Obj)) (s:Shared) (σ:St) (H:Hp) (Q:VK),Inv X pins σ H s→t σ H Q →
  wpAny (model X.prog X.w) X.A (eval a X.env) (fun v ft=>wpAny (model X.prog X.w) X.A (eval b X.env) (fun u pN=>wpAny (model X.prog X.w) X.A (compareOp op v u) (EP X pins σ Q) X.xe pN) X.xe ft) X.xe s
theorem Kk (b:Expr) {op:CmpOp} (h:op≠.In) (h2:op≠.NotIn):behindInMarks op b=false:=by
 have e1:(op == CmpOp.In)=false:=by cases op<;>first|rfl|exact absurd rfl h
 have e2:(op == CmpOp.NotIn)=false:=by cases op<;>first|rfl|exact absurd rfl h2
 cases b<;>simp [behindInMarks,e1,e2]
def tB (t:TE):TT:=fun σ H Q=>t σ H fun x H1=>∃c,x=.bl c∧Q c H1
theorem VV {op:CmpOp} {t:TE} (h:PC X op a b t) (h1:behindInMarks op b=false:=by first|exact Kk _ (by decide) (by decide)|rfl):PT X (.Compare a [op] [b] pos) (tB t):=by
 intro pins s σ H Q I hw
 refine wpAny_isTrue_Compare1 (gX (h pins s σ H _ I hw) fun v s1 h1=>gX h1 fun u s2 h2=>gX h2 fun c s3 ⟨x,H1,I1,r1,q1⟩=>?_) h1
 obtain ⟨d,rfl,q⟩:=q1
 cases r1
 exact wpAny_truthy_bool ⟨H1,I1,q⟩
theorem PR {e:Expr} {t:TE} (h:PE X e t) (he:∀whole,isTrue e X.env whole=(do let v ←whole;standAt e.pos;holding [v] (truthy v)):=by intro _;rfl):PT X e (tB t):=by
 intro pins s σ H Q I hw
 refine isTrue_plain (gX (h pins s σ H _ I hw) fun v s1 ⟨x,H1,I1,r1,q1⟩=>?_) (he _)
 obtain ⟨d,rfl,q⟩:=q1
 cases r1
 exact wpAny_truthy_bool ⟨H1,I1,q⟩
variable {tA Vb:TT} {rest:List Expr}
def VW (t u:TT):TT:=fun σ H Q=>t σ H fun c H1=>if c=true then u σ H1 Q else Q false H1
def Zp (t u:TT):TT:=fun σ H Q=>t σ H fun c H1=>if c=true then Q true H1 else u σ H1 Q
def VX (t:TT):TT:=fun σ H Q=>t σ H fun c H1=>Q (!c) H1
theorem Ni (ha:PT X a tA):PW X (.BoolOp .And [a] pos) tA:=by
 intro wh pins s σ H Q I h
 refine isTrue_and (gX (ha pins s σ H Q I h) fun c s1 e=>?_)
 cases c with
 | true=>exact isTrue_and_nil e
 | false=>exact e
theorem PU (ha:PT X a tA):PW X (.BoolOp .Or [a] pos) tA:=by
 intro wh pins s σ H Q I h
 refine isTrue_or (gX (ha pins s σ H Q I h) fun c s1 e=>?_)
 cases c with
 | false=>exact isTrue_or_nil e
 | true=>exact e
theorem PV (ha:PT X a tA) (hb:PW X (.BoolOp .And (b::rest) pos) Vb):PW X (.BoolOp .And (a::b::rest) pos) (VW tA Vb):=by
 intro wh pins s σ H Q I h
 refine isTrue_and (gX (ha pins s σ H _ I h) fun c s1 ⟨H1,I1,q1⟩=>?_)
 cases c with
 | true=>exact hb wh pins s1 σ H1 Q I1 q1
 | false=>exact ⟨H1,I1,q1⟩
theorem Sg (ha:PT X a tA) (hb:PW X (.BoolOp .Or (b::rest) pos) Vb):PW X (.BoolOp .Or (a::b::rest) pos) (Zp tA Vb):=by
 intro wh pins s σ H Q I h
 refine isTrue_or (gX (ha pins s σ H _ I h) fun c s1 ⟨H1,I1,q1⟩=>?_)
 cases c with
 | true=>exact ⟨H1,I1,q1⟩
 | false=>exact hb wh pins s1 σ H1 Q I1 q1
theorem PX (ha:PT X a tA):PT X (.UnaryOp .Not a pos) (VX tA):=by
 intro pins s σ H Q I h
 exact isTrue_not (ha pins s σ H (fun c H1=>Q (!c) H1) I h)
def Sh (ta tb:TE):TE:=fun σ H Q=>ta σ H fun x H1=>∃c,x=.bl c∧if c=true then tb σ H1 Q else Q (.bl false) H1
def VY (ta tb:TE):TE:=fun σ H Q=>ta σ H fun x H1=>∃c,x=.bl c∧if c=true then Q (.bl true) H1 else tb σ H1 Q
def Si (ta:TE):TE:=fun σ H Q=>ta σ H fun x H1=>∃c,x=.bl c∧Q (.bl (!c)) H1
theorem Kl {op} {t:TE} (h:PE X a t):PE X (.BoolOp op [a] pos) t:=fun pins s σ H Q I hw=>BoolOp_one (h pins s σ H Q I hw)
theorem PY (ha:PE X a ta) (hb:PE X (.BoolOp .And (b::rest) pos) tb):PE X (.BoolOp .And (a::b::rest) pos) (Sh ta tb):=by
 intro pins s σ H Q I h
 refine BoolOp_and (gX (ha pins s σ H _ I h) fun v s1 ⟨x,H1,I1,r1,q1⟩=>?_)
 obtain ⟨c,rfl,q1⟩:=q1
 cases r1
 refine wpAny_truthy_bool ?_
 cases c with
 | true=>exact hb pins s1 σ H1 Q I1 q1
 | false=>exact ⟨.bl false,H1,I1,rfl,q1⟩
theorem Sj (ha:PE X a ta) (hb:PE X (.BoolOp .Or (b::rest) pos) tb):PE X (.BoolOp .Or (a::b::rest) pos) (VY ta tb):=by
 intro pins s σ H Q I h
 refine BoolOp_or (gX (ha pins s σ H _ I h) fun v s1 ⟨x,H1,I1,r1,q1⟩=>?_)
 obtain ⟨c,rfl,q1⟩:=q1
 cases r1
 refine wpAny_truthy_bool ?_
 cases c with
 | false=>exact hb pins s1 σ H1 Q I1 q1
 | true=>exact ⟨.bl true,H1,I1,rfl,q1⟩
theorem PZ (ha:PE X a ta):PE X (.UnaryOp .Not a pos) (Si ta):=by
 intro pins s σ H Q I h
 refine UnaryOp_ (gX (ha pins s σ H _ I h) fun v s1 ⟨x,H1,I1,r1,q1⟩=>?_)
 obtain ⟨c,rfl,q1⟩:=q1
 cases r1
 exact not_of (wpAny_truthy_bool ⟨.bl (!c),H1,I1,rfl,q1⟩)
def Zq (t:TT) (ta tb:TE):TE:=fun σ H Q=>t σ H fun c H1=>if c=true then ta σ H1 Q else tb σ H1 Q
theorem Km {c:Expr} (hc:PT X c tA) (ha:PE X a ta) (hb:PE X b tb):PE X (.IfExp c a b pos) (Zq tA ta tb):=by
 intro pins s σ H Q I h
 refine wpAny_IfExp (gX (hc pins s σ H _ I h) fun d s1 ⟨H1,I1,q1⟩=>?_)
 cases d with
 | true=>exact ha pins s1 σ H1 Q I1 q1
 | false=>exact hb pins s1 σ H1 Q I1 q1
end
end L2
namespace L2
open PySem PySem.Spec PyProof.Rows
def eS (K:aa) (H:Hp) (a:Addr) (xs:List V):Prop :=
 Rd H a (.lst xs) ∨
  ∃(o:Obj) (bR:Array Value) (n:Nat),K.lookup a=some o∧o.cls=.type "list" ∧ o.dict=none∧o.data=.seq bR n∧bR.size≤sizeLine∧Vals xs bR.toList
def xG (K:aa) (H:Hp) (a:Addr) (xs:List V):Prop :=
 Rd H a (.tup xs) ∨
  ∃(o:Obj) (bR:Array Value) (n:Nat),K.lookup a=some o∧o.cls=.type "tuple" ∧ o.data=.seq bR n∧bR.size≤sizeLine∧Vals xs bR.toList
def VZ:Value→Option V
 | .none=>some .gg
 | .bool b=>some (.bl b)
 | .int i _=>some (.int i)
 | .str x _=>some (.str x)
 | .bytes b _=>some (.FJ b)
 | .float b _=>some (.U5 b)
 | .ref a=>some (.ref a)
 | .type n=>some (.ty n)
 | _=>none
theorem RelV.abs {x:V} {u:Value} (r:RelV x u):VZ u=some x:=by
 cases x with
 | gg=>cases r;rfl
 | bl _=>cases r;rfl
 | int _=>obtain ⟨t,rfl⟩:=r;rfl
 | str _=>obtain ⟨t,rfl⟩:=r;rfl
 | FJ _=>obtain ⟨t,rfl⟩:=r;rfl
 | U5 _=>obtain ⟨t,rfl⟩:=r;rfl
 | ref _=>cases r;rfl
 | ty _=>cases r;rfl
theorem RelV.inj {x y:V} {u:Value} (r:RelV x u) (q:RelV y u):x=y:=bA.inj (r.abs.symm.trans q.abs)
theorem Vals.inj:∀{xs ys:List V} {us:List Value},Vals xs us→Vals ys us→xs=ys
 | _,_,_,.nil,.nil=>rfl
 | _,_,_,.cons r t,.cons r' t'=>by rw [r.inj r',Vals.inj t t']
section
variable {X:Cx} {pins:List (Addr×Obj)} {σ:St} {H:Hp} {s:Shared} {a:Addr} {xs ys:List V}
theorem eS.of {K:aa} (h:H a=some (.lst xs)):eS K H a xs:=.inl (.inl h)
theorem xG.of {K:aa} (h:H a=some (.tup xs)):xG K H a xs:=.inl (.inl h)
theorem Inv.list (I:Inv X pins σ H s) (h:eS X.K H a xs):∃bR:List Value,Vals xs bR∧PlainL s.heap a bR.toArray∧xs.length≤sizeLine:=by
 rcases h with h|⟨o,bR,n,hk,hc,hd,hs,hz,r⟩
 ·obtain ⟨z,bR,n,r,e⟩:=h.ok I.fR
  exact ⟨bR,r,⟨_,n,e,rfl,rfl,rfl⟩,z⟩
 ·refine ⟨bR.toList,r,⟨o,n,I.Ki a o hk,hc,hd,by simpa using hs⟩,?_⟩
  have e:=r.length
  simp only [Array.length_toList] at e
  omega
theorem Inv.tuple (I:Inv X pins σ H s) (h:xG X.K H a xs):∃bR:List Value,Vals xs bR∧IsTup s.heap a bR.toArray∧xs.length≤sizeLine:=by
 rcases h with h|⟨o,bR,n,hk,hc,hs,hz,r⟩
 ·obtain ⟨z,bR,r,p⟩:=h.ok I.fR
  exact ⟨bR,r,p,z⟩
 ·refine ⟨bR.toList,r,⟨o,I.Ki a o hk,hc,n,by simpa using hs⟩,?_⟩
  have e:=r.length
  simp only [Array.length_toList] at e
  omega
theorem Inv.pO (I:Inv X pins σ H s) (h:eS X.K H a xs) (h':eS X.K H a ys):xs=ys:=by
 obtain ⟨bR,r,⟨o,n,e,_,_,d⟩,_⟩:=I.list h
 obtain ⟨its',r',⟨o',n',e',_,_,d'⟩,_⟩:=I.list h'
 rw [e] at e';cases e'
 rw [d] at d'
 injection d' with d1 _
 have:bR=its':=by simpa using congrArg Array.toList d1
 subst this
 exact r.inj r'
end
abbrev Cx.zT (X:Cx) (E:Value→Shared→Prop):Cx:={ X with xe:=E }
abbrev Cx.qC (X:Cx):Cx:=X.zT fun _ _=>False
theorem Cx.Ok.zT {X:Cx} (ok:X.Ok) (E:Value→Shared→Prop):(X.zT E).Ok :=
 ⟨ok.mod,ok.kind,ok.glob,ok.blt,ok.above,ok.inj,ok.has,ok.Sa,ok.hd,ok.frames,ok.U8,ok.U9,ok.bs,ok.Kf,ok.Kg,ok.Kh,ok.uf,ok.ON⟩
theorem Cx.Ok.pQ {X:Cx} {E:Value→Shared→Prop} (ok:(X.zT E).Ok):X.Ok :=
 ⟨ok.mod,ok.kind,ok.glob,ok.blt,ok.above,ok.inj,ok.has,ok.Sa,ok.hd,ok.frames,ok.U8,ok.U9,ok.bs,ok.Kf,ok.Kg,ok.Kh,ok.uf,ok.ON⟩
section
variable {X:Cx} {pins:List (Addr×Obj)} {σ:St} {H:Hp} {s:Shared} {E:Value→Shared→Prop}
theorem Inv.zT (I:Inv X pins σ H s) (E:Value→Shared→Prop):Inv (X.zT E) pins σ H s:=⟨I.ok.zT E,I.os,I.bare,I.base,I.loc,I.cell,I.free,I.pM,I.pin,I.fR,I.len⟩
theorem Inv.pQ (I:Inv (X.zT E) pins σ H s):Inv X pins σ H s:=⟨I.ok.pQ,I.os,I.bare,I.base,I.loc,I.cell,I.free,I.pM,I.pin,I.fR,I.len⟩
theorem SP.pQ {D:Ends} {f:Flow} {s':Shared} (h:SP (X.zT E) pins D f s'):SP X pins D f s':=by
 cases f with
 | next=>obtain ⟨fb,H',I,q⟩:=h;exact ⟨fb,H',I.pQ,q⟩
 | brk=>obtain ⟨fb,H',I,q⟩:=h;exact ⟨fb,H',I.pQ,q⟩
 | cont=>obtain ⟨fb,H',I,q⟩:=h;exact ⟨fb,H',I.pQ,q⟩
 | ret u=>obtain ⟨v,fb,H',I,r,q⟩:=h;exact ⟨v,fb,H',I.pQ,r,q⟩
theorem vO.qC {st:List Stmt} {t:TS} (h:vO X.qC st t):vO X st t:=fun pins s σ H D I hw =>
 wpAny_mono (h pins s σ H D (I.zT _) hw) (fun _ _ q=>q.pQ) fun _ _ z=>False.elim z
end
section
variable {X:Cx} {st:Stmt} {rest:List Stmt} {t u:TS} {e:Expr} {te:TE} {pos:Pos}
def Kn:TS:=fun D σ H=>D.nx σ H
def Nj (t u:TS):TS:=fun D σ H=>t { D with nx:=u D } σ H
theorem c_:vO X [] Kn:=fun _ _ σ H _ I h=>wpAny_execs_nil ⟨σ,H,I,h⟩
theorem aE (h1:PS X st t) (h2:vO X rest u):vO X (st::rest) (Nj t u):=by
 intro pins s σ H D I h
 refine wpAny_execs_cons (gX (h1 pins s σ H { D with nx:=u D } I h) fun f s1 q=>?_)
 cases f with
 | next =>
  obtain ⟨fb,H',I',q⟩:=q
  exact h2 pins s1 fb H' D I' q
 | ret v=>exact q
 | brk=>exact q
 | cont=>exact q
theorem br (h1:PS X st t):vO X [st] t:=by
 intro pins s σ H D I h
 refine wpAny_execs_cons (gX (h1 pins s σ H D I h) fun f s1 q=>?_)
 cases f with
 | next=>exact wpAny_execs_nil q
 | ret v=>exact q
 | brk=>exact q
 | cont=>exact q
def P0:TS:=fun D σ H=>D.bk σ H
def Sk:TS:=fun D σ H=>D.ct σ H
theorem Nk:PS X (.Pass pos) Kn:=fun _ _ σ H _ I h=>wpAny_Pass ⟨σ,H,I,h⟩
theorem Ko:PS X (.Break pos) P0:=fun _ _ σ H _ I h=>wpAny_Break ⟨σ,H,I,h⟩
theorem DJ:PS X (.Continue pos) Sk:=fun _ _ σ H _ I h=>wpAny_Continue ⟨σ,H,I,h⟩
theorem Inv.quiet {pins:List (Addr×Obj)} {σ:St} {H:Hp} {s:Shared} (I:Inv X pins σ H s):interactive X.env=false:=by simp [interactive,I.ok.kind]
def DK (te:TE):TS:=fun D σ H=>te σ H fun _ H1=>D.nx σ H1
theorem iT (he:PE X e te) (hs:swapsWith e none pos.line X.env=pure false:=by rfl):PS X (.Expr e pos) (DK te):=by
 intro pins s σ H D I h
 exact wpAny_Expr_any (gX (he pins s σ H _ I h) fun v s1 ⟨x,H1,I1,r1,q1⟩=>⟨σ,H1,I1,q1⟩) I.quiet hs
def Sm (te:TE):TS:=fun D σ H=>te σ H D.rt
theorem b5 (he:PE X e te):PS X (.Return (some e) pos) (Sm te):=by
 intro pins s σ H D I h
 exact wpAny_Return_some (gX (he pins s σ H _ I h) fun v s1 ⟨x,H1,I1,r1,q1⟩=>⟨x,σ,H1,I1,r1,q1⟩)
def Sn (c:TT) (t u:TS):TS:=fun D σ H=>c σ H fun b H1=>if b=true then t D σ H1 else u D σ H1
theorem fw {c:Expr} {a b:List Stmt} {tc:TT} (hc:PT X c tc) (ha:vO X a t) (hb:vO X b u):PS X (.If c a b pos) (Sn tc t u):=by
 intro pins s σ H D I h
 refine wpAny_If (gX (hc pins s σ H _ I h) fun d s1 ⟨H1,I1,q1⟩=>?_)
 cases d with
 | true=>exact ha pins s1 σ H1 D I1 q1
 | false=>exact hb pins s1 σ H1 D I1 q1
end
abbrev TG:=V→St→Hp→(St→Hp→Prop)→Prop
abbrev P1:=List V→St→Hp→(St→Hp→Prop)→Prop
def PG (X:Cx) (target:Expr) (t:TG):Prop :=
 ∀(pins:List (Addr×Obj)) (s:Shared) (σ:St) (H:Hp) (v:V) (u:Value) (Q:St→Hp→Prop),Inv X pins σ H s→RelV v u→t v σ H Q →
  wpAny (model X.prog X.w) X.A (assign target X.env u) (fun _ s'=>∃fb H',Inv X pins fb H' s'∧Q fb H') X.xe s
def Vc (X:Cx) (ts:List Expr) (t:P1):Prop :=
 ∀(pins:List (Addr×Obj)) (s:Shared) (σ:St) (H:Hp) (vs:List V) (us:List Value) (Q:St→Hp→Prop),Inv X pins σ H s→Vals vs us→t vs σ H Q →
  wpAny (model X.prog X.w) X.A (assignInOrder ((assignEach ts X.env).map (·.2)) us) (fun _ s'=>∃fb H',Inv X pins fb H' s'∧Q fb H') X.xe s
abbrev P2:=V→V→V→Hp→(Hp→Prop)→Prop
def So (X:Cx) (t:P2):Prop :=
 ∀(pins:List (Addr×Obj)) (s:Shared) (σ:St) (H:Hp) (o i v:V) (ov iv u:Value) (Q:Hp→Prop),Inv X pins σ H s→RelV o ov→RelV i iv→RelV v u→t o i v H Q →
  wpAny (model X.prog X.w) X.A (setItem ov iv u) (fun _ s'=>∃H',Inv X pins σ H' s'∧Q H') X.xe s
abbrev Sq:=V→V→Hp→VK→Prop
def RQ (X:Cx) (op:Operator) (t:Sq):Prop :=
 ∀(pins:List (Addr×Obj)) (s:Shared) (σ:St) (H:Hp) (x y:V) (v u:Value) (Q:VK),Inv X pins σ H s→RelV x v→RelV y u→t x y H Q →
  wpAny (model X.prog X.w) X.A (inplaceOp op v u) (EP X pins σ Q) X.xe s
section
variable {X:Cx} {pos:Pos}
def kU (i:Nat):TG:=fun v σ H Q=>Q (σ.set i (some v)) H
theorem wN {i:Nat} {x:Str} (hN:X.N.Nodup) (hi:X.N[i]?=some x) (hx:Loc X.env.scope x) (hf:X.fn x=true∨X.env.scope.names.lookup x=some .local:=by first|exact .inl rfl|exact .inr rfl|assumption):PG X (.Name x pos) (kU i):=by
 intro pins s σ H v u Q I r h
 exact wpAny_assign_Name (xF I hN hi hx r (fun s' I'=>⟨_,H,I',h⟩) hf)
def Sr:P1:=fun vs σ H Q=>vs=[]∧Q σ H
def Kp (t:TG) (u:P1):P1:=fun vs σ H Q=>∃v r,vs=v::r∧t v σ H fun fb H'=>u r fb H' Q
theorem Nl:Vc X [] Sr:=by
 intro pins s σ H vs us Q I r h
 obtain ⟨e,h⟩:=h
 subst e
 cases r
 exact assignInOrder_nil ⟨σ,H,I,h⟩
theorem DL {e:Expr} {es:List Expr} {t:TG} {u:P1} (h1:PG X e t) (h2:Vc X es u)
  (hs:(assignEach (e::es) X.env).map (·.2)=assign e X.env::(assignEach es X.env).map (·.2):=by rfl):Vc X (e::es) (Kp t u):=by
 intro pins s σ H vs us Q I r h
 obtain ⟨v,vr,e1,h⟩:=h
 subst e1
 cases r with
 | cons r rr =>
  rw [hs]
  refine assignInOrder_cons (gX (h1 pins s σ H _ _ _ I r h) fun _ s1 ⟨OQ,H1,I1,q1⟩=>?_)
  exact h2 pins s1 OQ H1 _ _ Q I1 rr q1
def Su (K:aa) (n:Nat) (t:P1):TG:=fun v σ H Q=>∃a xs,v=.ref a∧xG K H a xs∧xs.length=n∧t xs σ H Q
theorem P4 {es:List Expr} {k:Nat} {t:P1} {n:Nat} (hc:X.calm=true) (h:Vc X es t)
  (hn:(assignEach es X.env).length=n:=by rfl) (P5:(assignEach es X.env).findIdx? (·.1)=none:=by rfl):PG X (.Tuple es k pos) (Su X.K n t):=by
 intro pins s σ H v u Q I r hw
 obtain ⟨a,xs,e1,hq,hl,hw⟩:=hw
 subst e1
 cases r
 obtain ⟨bR,rv,ht,hz⟩:=I.tuple hq
 refine assign_Tuple_tuple (I.ok.hd hc) ht (by simp [hn,←hl,rv.length]) P5 fun h' hx=>?_
 have I1:Inv X pins σ H { s with heap:=h' }:=I.kept (t':=s.toks) fun b o e=>hx b o (cF (Heap.lt_size e)) e
 exact h pins _ σ H xs _ Q I1 (by simpa using rv) hw
def V0 (to ti:TE) (t:P2):TG:=fun v σ H Q=>to σ H fun o H1=>ti σ H1 fun i H2=>t o i v H2 fun H3=>Q σ H3
theorem B1 {o i:Expr} {to ti:TE} {t:P2} (ho:PE X o to) (hi:PE X i ti) (hs:So X t)
  (ha:∀v,assign (.Subscript o i pos) X.env v=(do
   let ov ←holding [v] (eval o X.env)
   let iv ←holding [v,ov] (eval i X.env)
   standAt pos
   holding [v,ov,iv] (setItem ov iv v)
   release [v,ov,iv] []):=by intro _;rfl):PG X (.Subscript o i pos) (V0 to ti t):=by
 intro pins s σ H v u Q I r h
 rw [ha]
 refine wpAny_bind (wpAny_holding (gX (ho pins s σ H _ I h) fun ov s1 ⟨x,H1,I1,r1,q1⟩=>?_))
 refine wpAny_bind (wpAny_holding (gX (hi pins s1 σ H1 _ I1 q1) fun iv s2 ⟨y,H2,I2,r2,q2⟩=>?_))
 refine wpAny_bind (wpAny_standAt (wpAny_bind (wpAny_holding (gX (hs pins s2 σ H2 x y v ov iv u _ I2 r1 r2 r q2) fun _ s3 ⟨H3,I3,q3⟩=>?_))))
 exact wpAny_release ⟨σ,H3,I3,q3⟩
def vP (te:TE) (g:TG):TS:=fun D σ H=>te σ H fun x H1=>g x σ H1 D.nx
theorem B2 {tg e:Expr} {te:TE} {g:TG} (he:PE X e te) (hg:PG X tg g) (hs:swapsWithSole [tg] e pos.line X.env=pure false:=by rfl) (hw:swappedStores [tg] e X.env=pure none:=by rfl)
  (h1:(assignEach [tg] X.env).map (·.2)=[assign tg X.env]:=by rfl):PS X (.Assign [tg] e pos) (vP te g):=by
 intro pins s σ H D I h
 refine wpAny_Assign_stores (gX (he pins s σ H _ I h) fun v s1 ⟨x,H1,I1,r1,q1⟩=>?_) hs hw
 rw [h1]
 exact gX (hg pins s1 σ H1 x v _ I1 r1 q1) fun _ s2 q=>q
theorem dh {i:Nat} {x:Str} {e:Expr} {te:TE} {pos':Pos} (hN:X.N.Nodup) (hi:X.N[i]?=some x) (hx:Loc X.env.scope x) (he:PE X e te) (hs:swapsWith e (some (.Name x pos')) pos.line X.env=pure false:=by rfl) (hf:X.fn x=true∨X.env.scope.names.lookup x=some .local:=by first|exact .inl rfl|exact .inr rfl|assumption) :
  PS X (.Assign [.Name x pos'] e pos) (vP te (kU i)):=by
 intro pins s σ H D I h
 refine wpAny_Assign_Name (gX (he pins s σ H _ I h) fun v s1 ⟨y,H1,I1,r1,q1⟩=>?_) hs
 exact xF I1 hN hi hx r1 (fun s2 I2=>⟨_,H1,I2,q1⟩) hf
def V1 (i:Nat) (te:TE) (ti:Sq):TS:=fun D σ H=>∃x,σ[i]?=some (some x)∧te σ H fun y H1=>ti x y H1 fun z H2=>D.nx (σ.set i (some z)) H2
theorem Kq {i:Nat} {x:Str} {e:Expr} {te:TE} {op:Operator} {ti:Sq} {pos':Pos} (hN:X.N.Nodup) (hi:X.N[i]?=some x) (hx:Loc X.env.scope x) (he:PE X e te) (ho:RQ X op ti) (hf:X.fn x=true∨X.env.scope.names.lookup x=some .local:=by first|exact .inl rfl|exact .inr rfl|assumption) :
  PS X (.AugAssign (.Name x pos') op e pos) (V1 i te ti):=by
 intro pins s σ H D I h
 obtain ⟨v,e1,h⟩:=h
 obtain ⟨m,hn,hl⟩:=I.loc
 have Zr:OM X.env.scope x:=by rcases hx with k|k;exact .inl k;exact .inr (.inl k)
 obtain ⟨u,r,l⟩:=hl i x v hi e1 Zr
 refine wpAny_AugAssign_Name ?_
 have go:wpAny (model X.prog X.w) X.A (eval e X.env) (fun w pN=>wpAny (model X.prog X.w) X.A (inplaceOp op u w) (fun r Kr=>wpAny (model X.prog X.w) X.A (storeName X.env x r) (fun _=>SP X pins D .next) X.xe Kr) X.xe pN) X.xe s:=by
  refine gX (he pins s σ H _ I h) fun w s1 ⟨y,H1,I1,r1,q1⟩=>?_
  refine gX (ho pins s1 σ H1 v y u w _ I1 r r1 q1) fun z s2 ⟨zv,H2,I2,r2,q2⟩=>?_
  exact xF I2 hN hi hx r2 (fun s3 I3=>⟨_,H2,I3,q2⟩) hf
 rcases l with ⟨hk,hm⟩|⟨hk,c,hc,Hh⟩
 ·exact wpAny_loadName_local I.ok.kind hk hn hm go
 ·rcases hk with hk|hk
  ·exact wpAny_loadName_cell I.ok.kind hk hc Hh go
  ·rcases hx with k|k
   ·have:X.env.scope.names.lookup x=some .free:=hk
    rw [k] at this;cases this
   ·have:X.env.scope.names.lookup x=some .free:=hk
    rw [k] at this;cases this
def V2 (f:Int→Int→Int):Sq:=fun x y H Q=>∃i j,x=.int i∧y=.int j∧Q (.int (f i j)) H
theorem Ks:RQ X .Add (V2 fun i j=>i+j):=by
 intro pins s σ H x y v u Q I r1 r2 h
 obtain ⟨i,j,e1,e2,q⟩:=h
 subst e1;subst e2
 obtain ⟨t,rfl⟩:=r1
 obtain ⟨t',rfl⟩:=r2
 exact iadd_int ⟨.int _,H,I.tok _,⟨_,rfl⟩,q⟩
theorem P6:RQ X .Sub (V2 fun i j=>i - j):=by
 intro pins s σ H x y v u Q I r1 r2 h
 obtain ⟨i,j,e1,e2,q⟩:=h
 subst e1;subst e2
 obtain ⟨t,rfl⟩:=r1
 obtain ⟨t',rfl⟩:=r2
 exact isub_int ⟨.int _,H,I.tok _,⟨_,rfl⟩,q⟩
end
section
variable {X:Cx} {pos:Pos}
def P7 (c:TT) (tb:TS):TS:=fun D σ H=>∃W:Nat→St→Hp→Prop,(∃m,W m σ H)∧∀m σ H,W m σ H →
 c σ H fun b H1=>if b=true then ∃N:St→Hp→Prop,(∀fb H',N fb H'→∃m',m' < m∧W m' fb H')∧tb { D with nx:=N,ct:=N,bk:=D.nx } σ H1 else D.nx σ H1
theorem DM {c:Expr} {body:List Stmt} {tc:TT} {tb:TS} (hp:PassesOwn (model X.prog X.w) X.A X.env X.xe) (hc:PT X c tc) (hb:vO X body tb):PS X (.While c body [] pos) (P7 tc tb):=by
 intro pins s σ H D I h
 obtain ⟨W,⟨m0,w0⟩,turn⟩:=h
 refine wpAny_While (codeAny_whileLoop (fun n s'=>∃fb H',Inv X pins fb H' s'∧W n fb H') ?_ m0 ⟨σ,H,I,w0⟩)
 rintro n s1 ⟨OQ,H1,I1,w1⟩
 refine wpAny_passesOwn hp (gX (hc pins s1 OQ H1 _ I1 (turn n OQ H1 w1)) fun b s2 ⟨H2,I2,q2⟩=>?_)
 cases b with
 | true =>
  obtain ⟨N,hN,q2⟩:=q2
  rw [if_pos rfl]
  refine wpAny_passesOwn hp (gX (hb pins s2 OQ H2 _ I2 q2) fun f s3 q3=>?_)
  cases f with
  | next =>
   obtain ⟨Kt,H3,I3,n3⟩:=q3
   obtain ⟨m',hm,w3⟩:=hN Kt H3 n3
   exact ⟨m',hm,Kt,H3,I3,w3⟩
  | cont =>
   obtain ⟨Kt,H3,I3,n3⟩:=q3
   obtain ⟨m',hm,w3⟩:=hN Kt H3 n3
   exact ⟨m',hm,Kt,H3,I3,w3⟩
  | brk=>exact q3
  | ret v=>exact q3
 | false =>
  rw [if_neg aQ]
  exact wpAny_execs_nil ⟨OQ,H2,I2,q2⟩
end
structure It where
 go:Nat→Hp→Prop
 IV:Nat→Hp→V→Hp→Prop
 stop:Nat→Hp→Prop
def ug (X:Cx) (pins:List (Addr×Obj)) (H:Hp) (b:Addr):Prop :=
 H b=none∧b≠X.env.locals∧b ∉ X.fs∧(b∈X.ex∨X.A9.heap.objs.size≤b)∧(∀x c,X.env.cells.lookup x=some c→c≠b)∧∀p∈X.pn++pins,p.1≠b
theorem Inv.FQ {X:Cx} {pins:List (Addr×Obj)} {σ:St} {H H':Hp} {s:Shared} {b:Addr} (I:Inv X pins σ H s) (hb:s.heap.objs.size≤b) (hn:H' b=none):ug X pins H' b:=by
 refine ⟨hn,rC (bC I.lt hb),I.VP hb,.inr (aO I.sz hb),fun x c e z=>?_,fun p hp z=>?_⟩
 ·obtain ⟨v,q⟩:=I.cell x c e
  exact absurd (bC q.lt (by rw [z];exact hb)) (eK _)
 ·exact absurd (bC (Heap.lt_size (I.pin p hp).1) (by rw [z];exact hb)) (eK _)
structure Turn (P:Program) (w:World) (K:aa) (tg:Expr) (J:It) (fp:List Addr) (it:Addr) (tn:Nat→Heap→Prop):Prop where
 mem:it∈fp
 obj:∀i h,tn i h→∀b∈fp,∃o,h.get? b=some o∧∀v,o.data≠.cell v
 keep:∀i h h',tn i h→(∀b∈fp,∀o,h.get? b=some o→h'.get? b=some o)→tn i h'
 item:∀(X:Cx),X.prog=P→X.w=w→X.K=K→X.calm=true→∀(i:Nat) (pins:List (Addr×Obj)) (s:Shared) (σ:St) (H:Hp) (E:Value→Shared→Prop),Inv X pins σ H s→(∀b∈fp,ug X pins H b)→tn i s.heap→J.go i H →
  wpAny (model P w) X.A (pyNext (.ref it)) (fun r s1=>∃u,r=some u ∧
   wpAny (model P w) X.A (letOwnedTupleGo tg (.ref it) u) (fun _ s2=>∃x H',Inv X pins σ H' s2∧RelV x u∧J.IV i H x H'∧tn (i+1) s2.heap∧∀b∈fp,H' b=none) E s1) E s
 done:∀(X:Cx),X.prog=P→X.w=w→X.K=K→X.calm=true→∀(i:Nat) (pins:List (Addr×Obj)) (s:Shared) (σ:St) (H:Hp) (E:Value→Shared→Prop),Inv X pins σ H s→(∀b∈fp,ug X pins H b)→tn i s.heap→J.stop i H →
  wpAny (model P w) X.A (pyNext (.ref it)) (fun r s1=>r=none∧Inv X pins σ H s1) E s
 self:∀(A:Around) (i:Nat) (s:Shared) (Q:Value→Shared→Prop) (E:Value→Shared→Prop),tn i s.heap→Q (.ref it) s→wpAny (model P w) A (pyIter (.ref it)) Q E s
abbrev TI:=St→Hp→(It→Hp→Prop)→Prop
def V3 (X:Cx) (pins:List (Addr×Obj)) (σ:St) (tg:Expr) (R:It→Hp→Prop) (V4:Value) (s2:Shared):Prop :=
 ∃(it:Addr) (fp:List Addr) (tn:Nat→Heap→Prop) (J:It) (H':Hp),V4=.ref it∧Inv X pins σ H' s2∧Turn X.prog X.w X.K tg J fp it tn∧tn 0 s2.heap∧(∀b∈fp,ug X pins H' b)∧R J H'
def PI (X:Cx) (tg iter:Expr) (wi:TI):Prop :=
 ∀(pins:List (Addr×Obj)) (s:Shared) (σ:St) (H:Hp) (R:It→Hp→Prop),Inv X pins σ H s→wi σ H R →
  wpAny (model X.prog X.w) X.A (eval iter X.env) (fun v s1=>wpAny (model X.prog X.w) X.A (pyIter v) (V3 X pins σ tg R) X.xe s1) X.xe s
theorem Ku {M:Model} {A:Around} {E:Value→Shared→Prop} {s:Shared} {tg:Expr} {it:Addr} {u:Value} {o:Obj} {n:String} {vs:Array Value} {Q:Unit→Shared→Prop} (ho:s.heap.get? it=some o) (hc:o.cls=.type n) (hd:o.data=.fields vs)
  (hn:["enumerate","zip","dict_itemiterator","dict_reverseitemiterator","odict_iterator","itertools.zip_longest","itertools.pairwise"].contains n=false) (hQ:Q () s):wpAny M A (letOwnedTupleGo tg (.ref it) u) Q E s:=by
 unfold letOwnedTupleGo
 cases tg<;>first
  | exact wpAny_pure hQ
  | (cases u<;>first
    | exact wpAny_pure hQ
    | (refine wpAny_bind (wpAny_load ho ?_);rw [hc,hd];show wpAny M A (if (["enumerate","zip","dict_itemiterator","dict_reverseitemiterator","odict_iterator","itertools.zip_longest","itertools.pairwise"].contains n&&vs[0]? == some (rawInt _))=true then _ else _) Q E s;rw [if_neg (by intro h;rw [hn,Bool.false_and] at h;cases h)];exact wpAny_pure hQ))
def RR (K:aa) (a:Addr):It :=
 ⟨fun i H=>∃xs x,eS K H a xs∧xs[i]?=some x,fun i H x H'=>H'=H∧∀xs,eS K H a xs→xs[i]?=some x,fun i H=>∃xs,eS K H a xs∧xs.length≤i⟩
def Sv (lo:Int) (n:Nat):It:=⟨fun i _=>i < n,fun i H x H'=>H'=H∧x=.int (lo+i),fun i _=>n≤i⟩
theorem IW {P:Program} {w:World} {K:aa} {tg:Expr} (a it:Addr):Turn P w K tg (RR K a) [it] it (fun i h=>h.IsListIter it a i) where
 mem:=by simp
 obj:=fun i h st b hb=>by
  have e:b=it:=by simpa using hb
  subst e
  obtain ⟨o,e,c,d⟩:=st
  exact ⟨o,e,fun v z=>by rw [d] at z;cases z⟩
 keep:=fun i h h' st k=>st.at fun o e=>k it (by simp) o e
 item:=by
  intro X hP hw hK hc i pins s σ H E I hf st hg
  subst hP hw hK
  obtain ⟨xs,x,hq,hx⟩:=hg
  obtain ⟨bR,rv,p,hz⟩:=I.list hq
  obtain ⟨u,hu,ru⟩:=rv.get hx
  obtain ⟨f0,f1,f2,f3,f4,f5⟩:=hf it (by simp)
  refine wpAny_pyNext_list_item st p.isList (x:=u) (by simpa using hu) fun h' kz sb=>?_
  have I1:Inv X pins σ H { s with heap:=h' }:=I.turned (t':=s.toks) (fun b o hb e=>(sb.2 b hb).trans e) f0 f1 f3 f4 f5
  obtain ⟨o,e,c,d⟩:=id kz
  exact ⟨u,rfl,Ku (s:={ s with heap:=h' }) e c d (by decide) ⟨x,H,I1,ru,⟨rfl,fun ys hy=>by rw [I.pO hy hq];exact hx⟩,kz,fun b hb=>(hf b hb).1⟩⟩
 done:=by
  intro X hP hw hK hc i pins s σ H E I hf st hg
  subst hP hw hK
  obtain ⟨xs,hq,hx⟩:=hg
  obtain ⟨bR,rv,p,hz⟩:=I.list hq
  obtain ⟨f0,f1,f2,f3,f4,f5⟩:=hf it (by simp)
  have hl:=rv.length
  exact wpAny_pyNext_list_end (I.ok.hd hc) st p.isList (by simp;omega) fun h' eb=>⟨rfl,I.turned (t':=s.toks) (fun b o hb e=>eb b o hb e) f0 f1 f3 f4 f5⟩
 self:=fun _ _ _ _ _ st h=>wpAny_pyIter_listiter st h
theorem FR {P:Program} {w:World} {K:aa} {tg:Expr} (it:Addr) (lo:Int) (n:Nat):Turn P w K tg (Sv lo n) [it] it (fun i h=>IsRangeIter h it (lo+(i:Nat)*1) ((n:Int) - (i:Nat)) 1) where
 mem:=by simp
 obj:=fun i h st b hb=>by
  have e:b=it:=by simpa using hb
  subst e
  exact ⟨_,st,fun v z=>by
   have z':Data.fields _=Data.cell v:=z
   cases z'⟩
 keep:=fun i h h' st k=>k it (by simp) _ st
 item:=by
  intro X hP hw hK hc i pins s σ H E I hf st hg
  subst hP hw hK
  obtain ⟨f0,f1,f2,f3,f4,f5⟩:=hf it (by simp)
  have W:=Walks.range (prog:=X.prog) (w:=X.w) (I.ok.hd hc) it lo 1 n
  refine W.item i s _ _ hg st fun v h' tk hv kz kk=>?_
  obtain ⟨t,rfl⟩:=hv
  have I1:Inv X pins σ H { s with heap:=h',toks:=tk }:=I.turned (fun b o hb e=>kk b o (by simpa using hb) e) f0 f1 f3 f4 f5
  refine ⟨_,rfl,Ku (s:={ s with heap:=h',toks:=tk }) (n := "range_iterator") kz rfl rfl (by decide) ⟨.int (lo+i),H,I1,⟨t,?_⟩,⟨rfl,rfl⟩,kz,fun b hb=>(hf b hb).1⟩⟩
  rw [Int.mul_one]
 done:=by
  intro X hP hw hK hc i pins s σ H E I hf st hg
  subst hP hw hK
  obtain ⟨f0,f1,f2,f3,f4,f5⟩:=hf it (by simp)
  exact wpAny_pyNext_range_end (I.ok.hd hc) st (by have:n≤i:=hg;omega) fun h' eb=>⟨rfl,I.turned (t':=s.toks) (fun b o hb e=>eb b o hb e) f0 f1 f3 f4 f5⟩
 self:=fun _ _ _ _ _ st h=>wpAny_pyIter_rangeiter st h
end L2
namespace L2
open PySem PySem.Spec PyProof.Rows
section
variable {X:Cx} {tg:Expr}
def Sw (K:aa) (tl:TE):TI:=fun σ H R=>tl σ H fun x H1=>∃a,x=.ref a∧(∃xs,eS K H1 a xs)∧R (RR K a) H1
theorem Hi {l:Expr} {tl:TE} (hl:PE X l tl):PI X tg l (Sw X.K tl):=by
 intro pins s σ H R I h
 refine gX (hl pins s σ H _ I h) fun v s1 ⟨x,H1,I1,r1,q1⟩=>?_
 obtain ⟨a,e,⟨xs,hq⟩,q⟩:=q1
 subst e
 cases r1
 obtain ⟨bR,rv,p,hz⟩:=I1.list hq
 refine wpAny_pyIter_list p.isList ?_
 refine ⟨s1.heap.objs.size,[s1.heap.objs.size],_,_,H1,rfl,I1.kept (t':=s1.toks) fun b o e=>Heap.get?_push_of_some _ e,IW a _,⟨_,Heap.get?_push_size _ rfl,rfl,rfl⟩,fun b hb=>?_,q⟩
 have e:b=s1.heap.objs.size:=by simpa using hb
 subst e
 exact I1.FQ (aW _) (I1.fR.fresh (aW _))
theorem DN {pins:List (Addr×Obj)} {σ:St} {H:Hp} {s:Shared} {R:It→Hp→Prop} {E:Value→Shared→Prop} {lo hi:Int} {t u v:Tok} {tk:Nat} (I:Inv X pins σ H s) (h1:-(2 ^ 62)≤lo) (h2:lo < 2 ^ 62) (h3:-(2 ^ 62)≤hi) (h4:hi < 2 ^ 62)
  (q:R (Sv lo (hi - lo).toNat) H):wpAny (model X.prog X.w) X.A (pyIter (.ref s.heap.objs.size)) (V3 X pins σ tg R) E { s with heap:=s.heap.push { cls:=.type "range",data:=.fields #[.int lo t,.int hi u,.int 1 v] },toks:=tk }:=by
 refine wpAny_pyIter_range (IsRange.new ..) (small_one h1 h2 h3 h4) ?_
 have I1:Inv X pins σ H { s with heap:=s.heap.push { cls:=.type "range",data:=.fields #[.int lo t,.int hi u,.int 1 v] },toks:=tk }:=I.kept fun b o e=>Heap.get?_push_of_some _ e
 refine ⟨(s.heap.push { cls:=.type "range",data:=.fields #[.int lo t,.int hi u,.int 1 v] }).objs.size,[(s.heap.push { cls:=.type "range",data:=.fields #[.int lo t,.int hi u,.int 1 v] }).objs.size],_,_,H,rfl,
  I1.kept (t':=tk) fun b o e=>Heap.get?_push_of_some _ e,FR _ lo (hi - lo).toNat,?_,fun b hb=>?_,q⟩
 ·have e1:lo+((0:Nat):Int)*1=lo:=by simp
  have e2:(((hi - lo).toNat:Nat):Int) - ((0:Nat):Int)=Builtin.Range.rangeSize lo hi 1:=by rw [rangeSize_one];split<;>omega
  show IsRangeIter _ _ (lo+((0:Nat):Int)*1) ((((hi - lo).toNat:Nat):Int) - ((0:Nat):Int)) 1
  rw [e1,e2]
  exact Heap.get?_push_size _ rfl
 ·have e:b=(s.heap.push { cls:=.type "range",data:=.fields #[.int lo t,.int hi u,.int 1 v] }).objs.size:=by simpa using hb
  subst e
  exact I1.FQ (aW _) (I1.fR.fresh (aW _))
def Sx (ta:TA):TI:=fun σ H R=>ta σ H fun vs H1=>∃j:Int,vs=[.int j]∧-(2 ^ 62)≤j∧j < 2 ^ 62∧R (Sv 0 j.toNat) H1
def Sy (ta:TA):TI:=fun σ H R=>ta σ H fun vs H1=>∃i j:Int,vs=[.int i,.int j]∧(-(2 ^ 62)≤i∧i < 2 ^ 62∧-(2 ^ 62)≤j∧j < 2 ^ 62)∧R (Sv i (j - i).toNat) H1
theorem IX {a:Expr} {ta:TA} {p pos:Pos} (hg:Gl X "range") (hm:X.mg "range" = none) (ha:PA X [a] ta) (hs:starEach [a] X.env=[(false,eval a X.env)]:=by rfl):PI X tg (.Call (.Name "range" p) [a] [] pos) (Sx ta):=by
 intro pins s σ H R I h
 refine Call_ (oo I hg hm boot_range (PyProof.Rows.callWith_type1 (gX (ha pos pins s σ H _ I h) fun us s1 ⟨vs,H1,I1,r1,q1⟩=>?_) hs rfl))
 obtain ⟨j,e,q1,q2,q⟩:=q1
 subst e
 cases r1 with
 | cons r rr =>
  cases rr
  obtain ⟨t,rfl⟩:=r
  exact call_range_1 (DN I1 (by omega) (by omega) q1 q2 (by simpa using q))
theorem IY {a b:Expr} {ta:TA} {p pos:Pos} (hg:Gl X "range") (hm:X.mg "range" = none) (ha:PA X [a,b] ta) (hs:starEach [a,b] X.env=[(false,eval a X.env),(false,eval b X.env)]:=by rfl) (Nm:starEach [b] X.env=[(false,eval b X.env)]:=by rfl) :
  PI X tg (.Call (.Name "range" p) [a,b] [] pos) (Sy ta):=by
 intro pins s σ H R I h
 refine Call_ (oo I hg hm boot_range (PyProof.Rows.callWith_type1 (gX (ha pos pins s σ H _ I h) fun us s1 ⟨vs,H1,I1,r1,q1⟩=>?_) (by rw [hs,Nm]) (by rw [Nm];rfl)))
 obtain ⟨i,j,e,⟨q1,q2,q3,q4⟩,q⟩:=q1
 subst e
 cases r1 with
 | cons r rr =>
  cases rr with
  | cons r' rr =>
   cases rr
   obtain ⟨t,rfl⟩:=r
   obtain ⟨t',rfl⟩:=r'
   exact call_range_2 (DN I1 q1 q2 q3 q4 q)
def V5 (wi:TI) (g:TG) (tb:TS):TS:=fun D σ H=>wi σ H fun J H1=>∃W:Nat→Nat→St→Hp→Prop,(∃m,W 0 m σ H1)∧∀i m σ H,W i m σ H →
 (J.stop i H∧D.nx σ H)∨(J.go i H∧∃N:St→Hp→Prop,(∀fb H',N fb H'→∃m',m' < m∧W (i+1) m' fb H')∧∀x H',J.IV i H x H'→g x σ H' fun MR H2=>tb { D with nx:=N,ct:=N,bk:=D.nx } MR H2)
def xH (fp:List Addr) (h:Heap):List (Addr×Obj):=fp.filterMap fun b=>(h.get? b).map fun o=>(b,o)
theorem rS {fp:List Addr} {h:Heap} {b:Addr} {o:Obj} (hb:b∈fp) (e:h.get? b=some o):(b,o)∈xH fp h:=M7.mpr ⟨b,hb,by rw [e];rfl⟩
theorem IZ {fp:List Addr} {h:Heap} {p:Addr×Obj} (hp:p∈xH fp h):p.1∈fp∧h.get? p.1=some p.2:=by
 obtain ⟨b,hb,e⟩:=M7.mp hp
 cases q:h.get? b with
 | none=>rw [q] at e;cases e
 | some o =>
  rw [q] at e
  have e':(b,o)=p:=bA.inj e
  subst e'
  exact ⟨hb,q⟩
theorem Inv.pinned {pins:List (Addr×Obj)} {σ:St} {H:Hp} {s:Shared} {fp:List Addr} (I:Inv X pins σ H s) (hf:∀b∈fp,ug X pins H b) (ho:∀b∈fp,∃o,s.heap.get? b=some o∧∀v,o.data≠.cell v):Inv X (pins++xH fp s.heap) σ H s :=
 I.Hg fun p hp=>(bE.mp hp).elim (fun z=>I.pin p (dA _ z)) fun z=>by
  obtain ⟨hb,e⟩:=IZ z
  obtain ⟨f0,f1,f2,_⟩:=hf p.1 hb
  obtain ⟨o,e',d⟩:=ho p.1 hb
  rw [e] at e';cases e'
  exact ⟨e,f0,f1,f2,d⟩
theorem Inv.sy {pins pl:List (Addr×Obj)} {σ:St} {H:Hp} {s:Shared} (I:Inv X (pins++pl) σ H s):Inv X pins σ H s:=I.Hg fun p hp=>I.pin p (dA _ (J9 _ hp))
theorem Kv {iter:Expr} {body:List Stmt} {wi:TI} {g:TG} {tb:TS} {pos:Pos} (hp:PassesOwn (model X.prog X.w) X.A X.env X.xe) (hc:X.calm=true) (hi:PI X tg iter wi) (hg:PG X tg g) (hb:vO X body tb)
  (hs:∀x,foldedSetIterable iter X.env x=pure x:=by intro _;rfl):PS X (.For tg iter body [] pos) (V5 wi g tb):=by
 intro pins s σ H D I h
 refine wpAny_For (gX (hi pins s σ H _ I h) fun v s1 h1=>gX h1 fun V4 s2 h2=>?_) hs
 obtain ⟨it,fp,tn,J,H2,e,I2,T,q_,f2,W,⟨m0,w0⟩,turn⟩:=h2
 subst e
 have FU:∀{H':Hp},(∀b∈fp,H' b=none)→∀b∈fp,ug X pins H' b:=fun hn b hb=>⟨hn b hb,(f2 b hb).2⟩
 refine codeAny_forLoop_any (fun n s'=>∃i fb H',Inv X pins fb H' s'∧tn i s'.heap∧(∀b∈fp,H' b=none)∧W i n fb H') ?_ m0 ⟨0,σ,H2,I2,q_,fun b hb=>(f2 b hb).1,w0⟩
 rintro n s3 ⟨i,Kt,H3,I3,oj,Sz,w3⟩
 rcases turn i n Kt H3 w3 with ⟨stop,qn⟩|⟨go,N,hN,step⟩
 ·refine wpAny_passesOwn hp (gX (T.done X rfl rfl rfl hc i pins s3 Kt H3 X.xe I3 (FU Sz) oj stop) fun r s4 ⟨hr,I4⟩=>?_)
  subst hr
  exact wpAny_execs_nil ⟨Kt,H3,I4,qn⟩
 ·refine wpAny_passesOwn hp (gX (T.item X rfl rfl rfl hc i pins s3 Kt H3 X.xe I3 (FU Sz) oj go) fun r s4 ⟨u,hr,h4⟩=>?_)
  subst hr
  refine wpAny_passesOwn hp (gX h4 fun _ s5 ⟨x,H5,I5,r5,y5,uh,Zs⟩=>?_)
  have Zt:=I5.pinned (FU Zs) (T.obj _ _ uh)
  refine wpAny_passesOwn hp (gX (hg _ s5 Kt H5 x u _ Zt r5 (step x H5 y5)) fun _ s6 ⟨SA,H6,I6,q6⟩=>?_)
  refine wpAny_passesOwn hp (gX (hb _ s6 SA H6 _ I6 q6) fun f s7 q7=>?_)
  have again:∀{Kw:St} {H7:Hp},Inv X (pins++xH fp s5.heap) Kw H7 s7→N Kw H7→∃m,m < n∧∃i fb H',Inv X pins fb H' s7∧tn i s7.heap∧(∀b∈fp,H' b=none)∧W i m fb H':=fun {Kw H7} I7 n7=>by
   obtain ⟨m',hm,w7⟩:=hN Kw H7 n7
   refine ⟨m',hm,i+1,Kw,H7,I7.sy,T.keep _ _ _ uh fun b hb o e=>(I7.pin (b,o) (dA _ (dA _ (rS hb e)))).1,fun b hb=>?_,w7⟩
   obtain ⟨o,e,d⟩:=T.obj _ _ uh b hb
   exact (I7.pin (b,o) (dA _ (dA _ (rS hb e)))).2.1
  cases f with
  | next=>obtain ⟨Kw,H7,I7,n7⟩:=q7;exact again I7 n7
  | cont=>obtain ⟨Kw,H7,I7,n7⟩:=q7;exact again I7 n7
  | brk=>obtain ⟨Kw,H7,I7,q7⟩:=q7;exact ⟨Kw,H7,I7.sy,q7⟩
  | ret v=>obtain ⟨x7,Kw,H7,I7,r7,q7⟩:=q7;exact ⟨x7,Kw,H7,I7.sy,r7,q7⟩
end
theorem Kx {K:aa} {a:Addr} {xs:List V} {g:TG} {tb:TS} {D:Ends} {σ:St} {H:Hp} (Pv:Nat→St→Hp→Prop) (h0:Pv 0 σ H) (hl:∀i σ H,i≤xs.length→Pv i σ H→eS K H a xs)
  (hs:∀i x σ H,xs[i]?=some x→Pv i σ H→g x σ H fun MR H2=>tb { D with nx:=Pv (i+1),ct:=Pv (i+1),bk:=D.nx } MR H2) (hd:∀σ H,Pv xs.length σ H→D.nx σ H) :
  ∃W:Nat→Nat→St→Hp→Prop,(∃m,W 0 m σ H)∧∀i m σ H,W i m σ H →
   ((RR K a).stop i H∧D.nx σ H)∨((RR K a).go i H∧∃N:St→Hp→Prop,(∀fb H',N fb H'→∃m',m' < m∧W (i+1) m' fb H')∧∀x H',(RR K a).IV i H x H'→g x σ H' fun MR H2=>tb { D with nx:=N,ct:=N,bk:=D.nx } MR H2):=by
 refine ⟨fun i m σ H=>m=xs.length - i∧i≤xs.length∧Pv i σ H,⟨xs.length,by simp,c8 _,h0⟩,?_⟩
 rintro i m σ H ⟨rfl,hi,p⟩
 have q:=hl i σ H hi p
 by_cases DO:i < xs.length
 ·refine .inr ⟨⟨xs,xs[i],q,by simp [DO]⟩,Pv (i+1),fun fb H' p'=>⟨xs.length - (i+1),by omega,rfl,DO,p'⟩,fun x H' y=>?_⟩
  obtain ⟨e,y⟩:=y
  subst e
  exact hs i x σ _ (y xs q) p
 ·have e:i=xs.length:=by omega
  subst e
  exact .inl ⟨⟨xs,q,aW _⟩,hd σ H p⟩
end L2
namespace L2
open PySem PySem.Spec PyProof.Rows
abbrev R2:=V→V→Hp→VK→Prop
def ka (X:Cx) (f:Value→Value→Sem Value) (r:R2):Prop :=
 ∀(pins:List (Addr×Obj)) (s:Shared) (σ:St) (H:Hp) (x y:V) (v u:Value) (Q:VK),Inv X pins σ H s→RelV x v→RelV y u→r x y H Q →
  wpAny (model X.prog X.w) X.A (f v u) (EP X pins σ Q) X.xe s
def V6 (X:Cx) (f:Value→Sem Value) (r:V→Hp→VK→Prop):Prop :=
 ∀(pins:List (Addr×Obj)) (s:Shared) (σ:St) (H:Hp) (x:V) (v:Value) (Q:VK),Inv X pins σ H s→RelV x v→r x H Q →
  wpAny (model X.prog X.w) X.A (f v) (EP X pins σ Q) X.xe s
def sA (X:Cx) (f:Value) (r:List V→Hp→VK→Prop):Prop :=
 ∀(pins:List (Addr×Obj)) (s:Shared) (σ:St) (H:Hp) (xs:List V) (us:List Value) (Q:VK),Inv X pins σ H s→Vals xs us→r xs H Q →
  wpAny (model X.prog X.w) X.A (call f us) (EP X pins σ Q) X.xe s
def SD (r:R2) (ta tb:TE):TE:=fun σ H Q=>ta σ H fun x H1=>tb σ H1 fun y H2=>r x y H2 Q
def Zu (r:V→Hp→VK→Prop) (ta:TE):TE:=fun σ H Q=>ta σ H fun x H1=>r x H1 Q
def rI (C:Int→Int→Prop) (g:Int→Int→V):R2:=fun x y H Q=>∃i j,x=.int i∧y=.int j∧C i j∧Q (g i j) H
def MS (g:Int→Int→V):R2:=fun x y H Q=>∃i j,x=.int i∧y=.int j∧Q (g i j) H
def rU (g:Int→V):V→Hp→VK→Prop:=fun x H Q=>∃i,x=.int i∧Q (g i) H
section
variable {X:Cx} {a b c:Expr} {ta tb tc:TE} {pos:Pos}
theorem P8 (ha:PE X a ta) (hb:PE X b tb) {pins:List (Addr×Obj)} {s:Shared} {σ:St} {H:Hp} {R:V→V→Hp→Prop} (I:Inv X pins σ H s)
  (h:ta σ H fun x H1=>tb σ H1 fun y H2=>R x y H2) {Q:Value→Shared→Prop} {f:Value→Value→Sem Value}
  (hf:∀v u s2 x y H2,Inv X pins σ H2 s2→RelV x v→RelV y u→R x y H2→wpAny (model X.prog X.w) X.A (f v u) Q X.xe s2) :
  wpAny (model X.prog X.w) X.A (eval a X.env) (fun v ft=>wpAny (model X.prog X.w) X.A (eval b X.env) (fun u pN=>wpAny (model X.prog X.w) X.A (f v u) Q X.xe pN) X.xe ft) X.xe s:=by
 refine gX (ha pins s σ H _ I h) fun v s1 ⟨x,H1,I1,r1,q1⟩=>?_
 refine gX (hb pins s1 σ H1 _ I1 q1) fun u s2 ⟨y,H2,I2,r2,q2⟩=>?_
 exact hf v u s2 x y H2 I2 r1 r2 q2
theorem xI {op:Operator} {r:R2} (ho:ka X (binaryOp op) r) (ha:PE X a ta) (hb:PE X b tb):PE X (.BinOp a op b pos) (SD r ta tb):=by
 intro pins s σ H Q I h
 exact wpAny_BinOp (P8 ha hb I h fun v u s2 x y H2 I2 rx ry q=>ho pins s2 σ H2 x y v u Q I2 rx ry q)
theorem SE {op:UnaryOp} {r:V→Hp→VK→Prop} (ho:V6 X (unaryOp op) r) (ha:PE X a ta):PE X (.UnaryOp op a pos) (Zu r ta):=by
 intro pins s σ H Q I h
 exact UnaryOp_ (gX (ha pins s σ H _ I h) fun v s1 ⟨x,H1,I1,r1,q1⟩=>ho pins s1 σ H1 x v Q I1 r1 q1)
theorem Vd {f:Value→Value→Sem Value} {C:Int→Int→Prop} {g:Int→Int→Int}
  (rule:∀(i j:Int) (t u:Tok) (s:Shared) (Q:Value→Shared→Prop) (E:Value→Shared→Prop),C i j→Q (.int (g i j) s.toks) { s with toks:=s.toks+1 }→wpAny (model X.prog X.w) X.A (f (.int i t) (.int j u)) Q E s) :
  ka X f (rI C fun i j=>.int (g i j)):=by
 intro pins s σ H x y v u Q I rx ry h
 obtain ⟨i,j,rfl,rfl,hc,q⟩:=h
 obtain ⟨t,rfl⟩:=rx
 obtain ⟨t',rfl⟩:=ry
 exact rule i j t t' s _ _ hc ⟨.int (g i j),H,I.tok _,⟨_,rfl⟩,q⟩
theorem Nn {f:Value→Value→Sem Value} {g:Int→Int→Int}
  (rule:∀(i j:Int) (t u:Tok) (s:Shared) (Q:Value→Shared→Prop) (E:Value→Shared→Prop),Q (.int (g i j) s.toks) { s with toks:=s.toks+1 }→wpAny (model X.prog X.w) X.A (f (.int i t) (.int j u)) Q E s) :
  ka X f (MS fun i j=>.int (g i j)):=by
 intro pins s σ H x y v u Q I rx ry h
 obtain ⟨i,j,rfl,rfl,q⟩:=h
 obtain ⟨t,rfl⟩:=rx
 obtain ⟨t',rfl⟩:=ry
 exact rule i j t t' s _ _ ⟨.int (g i j),H,I.tok _,⟨_,rfl⟩,q⟩
theorem Np {f:Value→Value→Sem Value} {g:Int→Int→Bool}
  (rule:∀(i j:Int) (t u:Tok) (s:Shared) (Q:Value→Shared→Prop) (E:Value→Shared→Prop),Q (.bool (g i j)) s→wpAny (model X.prog X.w) X.A (f (.int i t) (.int j u)) Q E s) :
  ka X f (MS fun i j=>.bl (g i j)):=by
 intro pins s σ H x y v u Q I rx ry h
 obtain ⟨i,j,rfl,rfl,q⟩:=h
 obtain ⟨t,rfl⟩:=rx
 obtain ⟨t',rfl⟩:=ry
 exact rule i j t t' s _ _ ⟨.bl (g i j),H,I,rfl,q⟩
def V7 (i j:Int):Prop:=0 < j∧j < 1073741824
def V8 (i j:Int):Prop:=0≤j∧j≤1000000∧i.natAbs < 2 ^ 64
def P9 (i j:Int):Prop:=(-(2 ^ 64) < i∧i < 2 ^ 64)∨(-(2 ^ 64) < j∧j < 2 ^ 64)
theorem P9.ok {i j:Int} (h:P9 i j):IntMulOk i j:=by
 rcases h with ⟨h1,h2⟩|⟨h1,h2⟩
 ·exact .of_left (intBits_le_64 h1 h2)
 ·exact .of_right (intBits_le_64 h1 h2)
theorem Ky:ka X (binaryOp .Add) (MS fun i j=>.int (i+j)):=Nn fun _ _ _ _ _ _ _ q=>add_int q
theorem P_:ka X (binaryOp .Sub) (MS fun i j=>.int (i - j)):=Nn fun _ _ _ _ _ _ _ q=>sub_int q
theorem Qa:ka X (binaryOp .Mult) (rI P9 fun i j=>.int (i*j)):=Vd fun _ _ _ _ _ _ _ hc q=>mul_int q hc.ok
theorem Nq:ka X (binaryOp .FloorDiv) (rI V7 fun i j=>.int (i / j)):=Vd fun i j _ _ _ _ _ hc q=>by
 have h1:(0:Int) < j:=hc.1
 have h2:j < 1073741824:=hc.2
 exact floordiv_int (by omega) (by rw [Int.fdiv_eq_ediv_of_nonneg i (by omega)];exact q) (.inl (PyProof.noPylong_small (by omega)))
theorem Qb:ka X (binaryOp .Mod) (rI (fun _ j=>0 < j) fun i j=>.int (i % j)):=Vd fun i j _ _ _ _ _ hc q=>by
 have h1:(0:Int) < j:=hc
 exact mod_int' (by omega) (by rw [Int.fmod_eq_emod_of_nonneg i (by omega)];exact q)
theorem Qc:ka X (binaryOp .LShift) (rI V8 fun i j=>.int (i*2 ^ j.toNat)):=Vd fun _ _ _ _ _ _ _ hc q=>lshift_int_small hc.1 hc.2.1 hc.2.2 q
theorem Qd:ka X (binaryOp .BitAnd) (MS fun i j=>.int (Builtin.bitAnd i j)):=Nn fun _ _ _ _ _ _ _ q=>and_int q
theorem SF:ka X (binaryOp .BitOr) (MS fun i j=>.int (Builtin.bitOr i j)):=Nn fun _ _ _ _ _ _ _ q=>or_int q
theorem Zv {f:Value→Sem Value} {g:Int→Int}
  (rule:∀(i:Int) (t:Tok) (s:Shared) (Q:Value→Shared→Prop) (E:Value→Shared→Prop),Q (.int (g i) s.toks) { s with toks:=s.toks+1 }→wpAny (model X.prog X.w) X.A (f (.int i t)) Q E s) :
  V6 X f (rU fun i=>.int (g i)):=by
 intro pins s σ H x v Q I rx h
 obtain ⟨i,rfl,q⟩:=h
 obtain ⟨t,rfl⟩:=rx
 exact rule i t s _ _ ⟨.int (g i),H,I.tok _,⟨_,rfl⟩,q⟩
theorem Qe:V6 X (unaryOp .USub) (rU fun i=>.int (-i)):=Zv fun _ _ _ _ _ q=>neg_int q
end
def Qg:V→V→Bool
 | .gg,.gg=>true|.gg,.int _=>true|.int _,.gg=>true|.gg,.bl _=>true|.bl _,.gg=>true|.gg,.str _=>true|.str _,.gg=>true
 | .int _,.int _=>true|.bl _,.bl _=>true|.str _,.str _=>true|.FJ _,.FJ _=>true
 | .int _,.str _=>true|.str _,.int _=>true|.bl _,.str _=>true|.str _,.bl _=>true
 | _,_=>false
def Zw:R2:=fun x y H Q=>Qg x y=true∧Q (.bl (decide (x=y))) H
def Zx:R2:=fun x y H Q=>Qg x y=true∧Q (.bl (!decide (x=y))) H
theorem Hj {i j:Int}:decide (V.int i=V.int j)=(i == j):=by
 rw [dX]
 simp
theorem Kz {i j:Bool}:decide (V.bl i=V.bl j)=(i == j):=by
 rw [dX]
 simp
theorem Hk {i j:Str}:decide (V.str i=V.str j)=(i == j):=by
 rw [dX]
 simp
theorem Hl {i j:Array UInt8}:decide (V.FJ i=V.FJ j)=(i.toList == j.toList):=by
 rw [dX]
 cases i
 cases j
 simp
section
variable {X:Cx} {a b c:Expr} {ta tb tc:TE} {pos:Pos}
theorem dH {pins:List (Addr×Obj)} {σ:St} {H:Hp} {s:Shared} {Q:VK} {k k':Bool} (I:Inv X pins σ H s) (q:Q (.bl k) H) (e:k=k'):EP X pins σ Q (.bool k') s:=by
 subst e
 exact ⟨.bl k,H,I,rfl,q⟩
theorem SG:ka X (compareOp .Eq) Zw:=by
 intro pins s σ H x y v u Q I rx ry h
 obtain ⟨hs,q⟩:=h
 cases x with
 | gg =>
  cases rx
  cases y with
  | gg=>cases ry;exact PySem.EqNone.eq_none_none (dH I q (by simp))
  | bl j=>cases ry;exact PySem.EqNone.eq_none_bool (dH I q (by simp))
  | int j=>obtain ⟨t',rfl⟩:=ry;exact PySem.EqNone.eq_none_int (dH I q (by simp))
  | str j=>obtain ⟨t',rfl⟩:=ry;exact PySem.EqNone.eq_none_str (dH I q (by simp))
  | _=>exact absurd (show false=true from hs) aQ
 | bl i =>
  cases rx
  cases y with
  | gg=>cases ry;exact PySem.EqNone.eq_bool_none (dH I q (by simp))
  | bl j=>cases ry;exact eq_bool (dH I q Kz)
  | str j=>obtain ⟨t',rfl⟩:=ry;exact PySem.EqMixed.eq_bool_str (dH I q (by simp))
  | _=>exact absurd (show false=true from hs) aQ
 | int i =>
  obtain ⟨t,rfl⟩:=rx
  cases y with
  | gg=>cases ry;exact PySem.EqNone.eq_int_none (dH I q (by simp))
  | int j=>obtain ⟨t',rfl⟩:=ry;exact eq_int (dH I q Hj)
  | str j=>obtain ⟨t',rfl⟩:=ry;exact PySem.EqMixed.eq_int_str (dH I q (by simp))
  | _=>exact absurd (show false=true from hs) aQ
 | str i =>
  obtain ⟨t,rfl⟩:=rx
  cases y with
  | gg=>cases ry;exact PySem.EqNone.eq_str_none (dH I q (by simp))
  | bl j=>cases ry;exact PySem.EqMixed.eq_str_bool (dH I q (by simp))
  | int j=>obtain ⟨t',rfl⟩:=ry;exact PySem.EqMixed.eq_str_int (dH I q (by simp))
  | str j=>obtain ⟨t',rfl⟩:=ry;exact eq_str (dH I q Hk)
  | _=>exact absurd (show false=true from hs) aQ
 | FJ i =>
  obtain ⟨t,rfl⟩:=rx
  cases y with
  | FJ j=>obtain ⟨t',rfl⟩:=ry;exact PySem.W.eq_bytes (dH I q Hl)
  | _=>exact absurd (show false=true from hs) aQ
 | _=>cases y<;>exact absurd (show false=true from hs) aQ
theorem SH:ka X (compareOp .NotEq) Zx:=by
 intro pins s σ H x y v u Q I rx ry h
 obtain ⟨hs,q⟩:=h
 cases x with
 | gg =>
  cases rx
  cases y with
  | gg=>cases ry;exact PySem.EqNone.ne_none_none (dH I q (by simp))
  | bl j=>cases ry;exact PySem.EqNone.ne_none_bool (dH I q (by simp))
  | int j=>obtain ⟨t',rfl⟩:=ry;exact PySem.EqNone.ne_none_int (dH I q (by simp))
  | str j=>obtain ⟨t',rfl⟩:=ry;exact PySem.EqNone.ne_none_str (dH I q (by simp))
  | _=>exact absurd (show false=true from hs) aQ
 | bl i =>
  cases rx
  cases y with
  | gg=>cases ry;exact PySem.EqNone.ne_bool_none (dH I q (by simp))
  | bl j=>cases ry;exact ne_bool (dH I q (congrArg not Kz))
  | str j=>obtain ⟨t',rfl⟩:=ry;exact PySem.EqMixed.ne_bool_str (dH I q (by simp))
  | _=>exact absurd (show false=true from hs) aQ
 | int i =>
  obtain ⟨t,rfl⟩:=rx
  cases y with
  | gg=>cases ry;exact PySem.EqNone.ne_int_none (dH I q (by simp))
  | int j=>obtain ⟨t',rfl⟩:=ry;exact ne_int (dH I q (congrArg not Hj))
  | str j=>obtain ⟨t',rfl⟩:=ry;exact PySem.EqMixed.ne_int_str (dH I q (by simp))
  | _=>exact absurd (show false=true from hs) aQ
 | str i =>
  obtain ⟨t,rfl⟩:=rx
  cases y with
  | gg=>cases ry;exact PySem.EqNone.ne_str_none (dH I q (by simp))
  | bl j=>cases ry;exact PySem.EqMixed.ne_str_bool (dH I q (by simp))
  | int j=>obtain ⟨t',rfl⟩:=ry;exact PySem.EqMixed.ne_str_int (dH I q (by simp))
  | str j=>obtain ⟨t',rfl⟩:=ry;exact ne_str (dH I q (congrArg not Hk))
  | _=>exact absurd (show false=true from hs) aQ
 | FJ i =>
  obtain ⟨t,rfl⟩:=rx
  cases y with
  | FJ j=>obtain ⟨t',rfl⟩:=ry;exact PySem.W.ne_bytes (dH I q (congrArg not Hl))
  | _=>exact absurd (show false=true from hs) aQ
 | _=>cases y<;>exact absurd (show false=true from hs) aQ
theorem OR:ka X (compareOp .Lt) (MS fun i j=>.bl (decide (i < j))):=Np fun _ _ _ _ _ _ _ q=>lt_int q
theorem SI:ka X (compareOp .LtE) (MS fun i j=>.bl (decide (i≤j))):=Np fun _ _ _ _ _ _ _ q=>le_int q
theorem SJ:ka X (compareOp .Gt) (MS fun i j=>.bl (decide (j < i))):=Np fun _ _ _ _ _ _ _ q=>gt_int q
theorem SK:ka X (compareOp .GtE) (MS fun i j=>.bl (decide (j≤i))):=Np fun _ _ _ _ _ _ _ q=>ge_int q
theorem Nr {op:CmpOp} {r:R2} (ho:ka X (compareOp op) r) (ha:PE X a ta) (hb:PE X b tb) (hm:behindInMarks op b=false):PE X (.Compare a [op] [b] pos) (SD r ta tb):=by
 intro pins s σ H Q I h
 exact wpAny_Compare1 (P8 ha hb I h fun v u s2 x y H2 I2 rx ry q=>ho pins s2 σ H2 x y v u Q I2 rx ry q) hm
def SM (t:TE):TT:=fun σ H Q=>t σ H fun x H'=>∃k,x=.bl k∧Q k H'
theorem Hm {op:CmpOp} {r:R2} (ho:ka X (compareOp op) r) (ha:PE X a ta) (hb:PE X b tb) (hm:behindInMarks op b=false):PT X (.Compare a [op] [b] pos) (SM (SD r ta tb)):=by
 intro pins s σ H Q I h
 refine wpAny_isTrue_Compare1 (gX (ha pins s σ H _ I h) fun v s1 ⟨x,H1,I1,r1,q1⟩=>gX (hb pins s1 σ H1 _ I1 q1) fun u s2 ⟨y,H2,I2,r2,q2⟩ =>
  gX (ho pins s2 σ H2 x y v u _ I2 r1 r2 q2) fun c s3 ⟨z,H3,I3,r3,k,e,q3⟩=>?_) hm
 subst e
 cases r3
 exact wpAny_truthy_bool ⟨H3,I3,q3⟩
theorem B3:(sizeLine:Nat) < 2 ^ 63:=by rw [sizeLine_eq];decide
theorem vals1 {x:V} {us:List Value} (r:Vals [x] us):∃u,us=[u]∧RelV x u:=by
 cases r with
 | cons r1 r2=>cases r2;exact ⟨_,rfl,r1⟩
end
end L2
namespace L2
open PySem PySem.Spec PyProof.Rows
structure I0 (h:Heap) (x dx C:Addr) (mA:Str→Option Value):Prop where
 obj:h.get? x=some (fN C dx)
 ns:h.Ns1 dx mA
 ne:dx≠x
theorem I_ {h:Heap} {dx:Addr} {mA:Str→Option Value} (n:h.Ns1 dx mA):∃od,h.get? dx=some od∧∀name,A6 name od=some (mA name):=by
 obtain ⟨o,es,ep,ho,hd,hk,_,hm⟩:=n
 refine ⟨o,ho,fun name=>?_⟩
 have e:=hm name
 unfold nsFind findBy at e
 rw [←Array.find?_toList] at e
 unfold A6
 rw [hd]
 dsimp only
 split
 ·rename_i y q
  rw [q] at e
  exact congrArg some e
 ·rename_i q
  rw [q] at e
  have a:es.toList.any (·.refKey)=false:=by
   rw [List.any_eq_false]
   intro y hy
   obtain ⟨z,t,V9⟩:=hk y (Array.mem_toList_iff.mp hy)
   simp [DictEntry.refKey,V9]
  have a':¬es.toList.any (·.refKey)=true:=by rw [a];exact aQ
  rw [if_neg a']
  exact congrArg some e
theorem I0.look {h:Heap} {x dx C:Addr} {mA:Str→Option Value} (I:I0 h x dx C mA):∃od,PySem.W.InstAt h x (fN C dx) C (some od)∧∀name,A6 name od=some (mA name) :=
 let ⟨od,ho,hl⟩:=I_ I.ns
 ⟨od,⟨I.obj,rfl,rfl,ho⟩,hl⟩
section
variable {prog:Program} {w:World} {A:Around} {E:Value→Shared→Prop} {s:Shared} {K:aa} {x dx C f:Addr} {mA:Str→Option Value} {name:Str} {v:Value}
theorem get_map {expr:Bool} {Q:Value→Shared→Prop} (X:K.In s.heap) (I:I0 s.heap x dx C mA) (hg:oZ K C name=true) (hh:nP K C=true)
  (ha:cK K (.ref C) name=some none) (hv:mA name=some v) (Ve:MJ v=true) (h:Q v { s with toks:=s.toks+1 }) :
  wpAny (model prog w) A (getAttr (.ref x) name expr) Q E s:=by
 obtain ⟨od,J,hl⟩:=I.look
 exact PySem.W.get_value X J (PySem.W.plainGet_of hg).1 (PySem.W.findObj_own hh ha rfl (by rw [hl,hv])) Ve h
theorem Nt {ns:List Str} {Q:Unit→Shared→Prop} (X:K.In s.heap) (I:I0 s.heap x dx C mA)
  (hs:cK K (.ref C) "__setattr__" = some (some (.builtin "object.__setattr__"))) (hp:vg K C=true) (ht:zI K C name=some none) (hh:nP K C=true)
  (hw:PySem.Within mA ns) (hsz:ns.length≤sizeLine)
  (h:∀h',I0 h' x dx C (fun y=>if y=name then some v else mA y)→Heap.SameBut dx s.heap h'→Q () { s with heap:=h',toks:=s.toks+2 }) :
  wpAny (model prog w) A (setAttr (.ref x) name v) Q E s:=by
 obtain ⟨od,J,hl⟩:=I.look
 refine PySem.W.set_plain X J hs (PySem.W.osa_open (s:={ s with toks:=s.toks+1 }) (r:=none) X J hp ht fun b=>?_)
 obtain ⟨cd,hc,VQ⟩:=PySem.W.any_some hh
 have hx:s.heap.get? x=some ⟨.ref C,some dx,.plain,#[]⟩:=I.obj
 refine wpAny_bind (wpAny_pure (wpAny_bind (wpAny_bind (wpAny_loadPart hx (wpAny_bind (PySem.W.Looks.here (s:={ s with toks:=s.toks+1 }) (PySem.W.looks_clsIn X hc) ?_))))))
 rw [VQ]
 refine wpAny_pure (a:=some dx) (wpAny_bind (wpAny_pure (wpAny_bind ?_)))
 refine wpAny_nsSet1 (s:={ s with toks:=s.toks+1 }) I.ns fun h' Ye Nm=>?_
 obtain ⟨oD,esD,epD,Zy,Zz,ZA⟩:=Ye.count (PySem.Within.cons name v hw)
 refine wpAny_bind (wpAny_lookBehind Zy (by rw [Zz];exact pastItsLine_dict (aO ZA (by rw [ay];omega))) ?_)
 exact wpAny_pure (h _ ⟨(Nm.2 _ (Ne.symm I.ne)).trans I.obj,Ye,I.ne⟩ Nm)
theorem KA {R:Result→Shared→Prop} {vs:List Value} {kw:List (Str×Value)} (X:K.In s.heap) (hm:pH K C=true)
  (hi:cK K (.ref C) "__init__" = some (some (.ref f))) (hf:PySem.W.typeIn K (.ref f)=some (.type "function"))
  (h:codeAny (model prog w) (A.under (.builtin "type.__call__" ⟨.ref C::vs,kw⟩)) (.call (.ref f) ⟨.ref (s.heap.objs.size+1)::vs,kw⟩) (PySem.W.InitBack (s.heap.objs.size+1) R)
   { s with heap:=(s.heap.push dO).push (fN C s.heap.objs.size) }) :
  codeAny (model prog w) A (.call (.ref C) ⟨vs,kw⟩) R s:=by
 obtain ⟨hh,g,d,t,os⟩:=s
 exact PySem.W.make_core (PySem.W.makes_of X hm) (PySem.W.looks_findIn X hi) (fun self=>PySem.W.bind_fn X self hf) (.inl rfl) h
end
def cX (f:Str) (v:V):List (Str×V)→List (Str×V)
 | []=>[(f,v)]
 | (g,x)::r=>if g=f then (g,v)::r else (g,x)::cX f v r
theorem cb (f g:Str) (v:V):∀fs:List (Str×V),(cX f v fs).lookup g=if g=f then some v else fs.lookup g
 | []=>by
  show iI g [(f,v)]=_
  by_cases h:g=f
  ·have hb:(g == f)=true:=beq_iff_eq.mpr h
   simp only [iI,hb,if_pos h]
  ·have hb:(g == f)=false:=beq_eq_false_iff_ne.mpr h
   simp only [iI,hb,if_neg h]
 | (k,x)::r=>by
  have ih:=cb f g v r
  rw [show cX f v ((k,x)::r)=(if k=f then (k,v)::r else (k,x)::cX f v r) from rfl]
  by_cases hk:k=f
  ·rw [if_pos hk]
   by_cases h:g=k
   ·have hb:(g == k)=true:=beq_iff_eq.mpr h
    simp only [iI,hb,if_pos (h.trans hk)]
   ·have hb:(g == k)=false:=beq_eq_false_iff_ne.mpr h
    simp only [iI,hb,if_neg (fun e:g=f=>h (e.trans hk.symm))]
  ·rw [if_neg hk]
   by_cases h:g=k
   ·have hb:(g == k)=true:=beq_iff_eq.mpr h
    simp only [iI,hb,if_neg (fun e:g=f=>hk (h.symm.trans e))]
   ·have hb:(g == k)=false:=beq_eq_false_iff_ne.mpr h
    simp only [iI,hb]
    exact ih
theorem ui (f:Str) (v:V):∀fs:List (Str×V),f∈(cX f v fs).map (·.1)∧∀g,g∈fs.map (·.1)→g∈(cX f v fs).map (·.1)
 | []=>⟨by simp [cX],fun g h=>by simp at h⟩
 | (k,x)::r=>by
  obtain ⟨i1,i2⟩:=ui f v r
  rw [show cX f v ((k,x)::r)=(if k=f then (k,v)::r else (k,x)::cX f v r) from rfl]
  by_cases hk:k=f
  ·rw [if_pos hk]
   subst hk
   exact ⟨by simp,fun g h=>by simpa using h⟩
  ·rw [if_neg hk]
   refine ⟨?_,fun g h=>?_⟩
   ·rw [aN]
    exact bq _ i1
   ·rw [aN] at h ⊢
    rcases aF.mp h with e|e
    ·exact aF.mpr (.inl e)
    ·exact bq _ (i2 g e)
theorem gZ (f:Str) (v:V):∀fs:List (Str×V),(cX f v fs).length≤fs.length+1
 | []=>by simp [cX]
 | (k,x)::r=>by
  have ih:=gZ f v r
  rw [show cX f v ((k,x)::r)=(if k=f then (k,v)::r else (k,x)::cX f v r) from rfl]
  by_cases hk:k=f
  ·rw [if_pos hk,ay,ay];omega
  ·rw [if_neg hk,ay,ay];omega
theorem BV.some_of {v:V} {o:Option Value} (r:BV (some v) o):∃u,o=some u∧RelV v u:=by
 cases o with
 | none=>exact (show False from r).elim
 | some u=>exact ⟨u,rfl,r⟩
theorem Ja {v:V} {u:Value} (r:RelV v u):MJ u=true:=by
 cases v with
 | gg=>cases (show u=Value.none from r);rfl
 | bl b=>cases (show u=Value.bool b from r);rfl
 | int i=>obtain ⟨t,e⟩:=(show ∃t,u=Value.int i t from r);cases e;rfl
 | str x=>obtain ⟨t,e⟩:=(show ∃t,u=Value.str x t from r);cases e;rfl
 | FJ b=>obtain ⟨t,e⟩:=(show ∃t,u=Value.bytes b t from r);cases e;rfl
 | U5 b=>obtain ⟨t,e⟩:=(show ∃t,u=Value.float b t from r);cases e;rfl
 | ref a=>cases (show u=Value.ref a from r);rfl
 | ty n=>cases (show u=Value.type n from r);rfl
section
variable {P:Program} {w:World} {H H':Hp} {h h':Heap} {a C dx:Addr} {fs Zk:List (Str×V)}
theorem Hn (fR:sx P w H h) (e:H a=some (.ins C dx fs)):∃mA,I0 h a dx C mA∧(∀f,BV (fs.lookup f) (mA f))∧PySem.Within mA (fs.map (·.1))∧fs.length≤1000∧H dx=some (.own a):=by
 obtain ⟨d,z,ne,ob,mA,n,r,q⟩:=(show i6 P w H h a (.ins C dx fs) from fR a _ e)
 exact ⟨mA,⟨ob,n,ne⟩,r,q,z,d⟩
end
structure MT (K:aa) (C:Addr):Prop where
 pg:oZ K C Str.empty=true
 hd:nP K C=true
 po:vg K C=true
 sa:cK K (.ref C) "__setattr__" = some (some (.builtin "object.__setattr__"))
theorem MT.get {K:aa} {C:Addr} (c:MT K C) (f:Str):oZ K C f=true:=c.pg
def iY (K:aa) (C:Addr) (f:Str):Prop:=cK K (.ref C) f=some none
theorem iY.SN {K:aa} {C:Addr} {f:Str} (n:iY K C f):zI K C f=some none:=by
 unfold zI
 rw [show cK K (.ref C) f=some none from n]
 rfl
section
variable {X:Cx} {pins:List (Addr×Obj)} {σ:St} {H:Hp} {s:Shared} {a C dx:Addr} {fs:List (Str×V)} {f:Str} {v:V} {A:Around} {E:Value→Shared→Prop}
theorem FV {b:Bool} {Q:Value→Shared→Prop} (I:Inv X pins σ H s) (e:H a=some (.ins C dx fs)) (c:MT X.K C) (n:iY X.K C f) (l:fs.lookup f=some v)
  (h:∀u s',Inv X pins σ H s'→RelV v u→Q u s'):wpAny (model X.prog X.w) A (getAttr (.ref a) f b) Q E s:=by
 obtain ⟨mA,O,r,_,_,_⟩:=Hn I.fR e
 obtain ⟨u,hu,ru⟩:=BV.some_of (v:=v) (o:=mA f) (by rw [←l];exact r f)
 exact get_map I.Ki O (c.get f) c.hd n hu (Ja ru) (h u _ (I.tok _) ru)
theorem FW {y:V} {u:Value} {Q:Unit→Shared→Prop} (I:Inv X pins σ H s) (e:H a=some (.ins C dx fs)) (c:MT X.K C) (n:iY X.K C f) (hl:fs.length < 1000) (ry:RelV y u)
  (h:∀s',Inv X pins σ (upd H a (.ins C dx (cX f y fs))) s'→Q () s'):wpAny (model X.prog X.w) A (setAttr (.ref a) f u) Q E s:=by
 obtain ⟨mA,O,r,wi,_,ho⟩:=Hn I.fR e
 have hz:(fs.map (·.1)).length≤sizeLine:=by rw [af,sizeLine_eq];omega
 refine Nt I.Ki O c.sa c.po n.SN c.hd wi hz fun h' O' sb=>h _ ?_
 have hd:∃o,h'.get? dx=some o:=let ⟨o,_,_,e',_⟩:=O'.ns;⟨o,e'⟩
 refine I.write (x:=a) (e:=dx) (by rw [e];exact True.intro) (.inr ho) (fun b q hb z=>(sb.2 b hb).trans z) hd ?_
 refine ⟨by rw [aM O.ne];exact ho,?_,O.ne,O'.obj,_,O'.ns,fun g=>?_,fun g hg=>?_⟩
 ·have:=gZ f y fs;omega
 ·show BV ((cX f y fs).lookup g) (if g=f then some u else mA g)
  rw [cb]
  by_cases q:g=f
  ·rw [if_pos q,if_pos q];exact ry
  ·rw [if_neg q,if_neg q];exact r g
 ·by_cases q:g=f
  ·rw [q];exact (ui f y fs).1
  ·refine (ui f y fs).2 g (wi g fun z=>hg ?_)
   show (if g=f then some u else mA g)=none
   rw [if_neg q];exact z
theorem Inv.made (I:Inv X pins σ H s):Inv X pins σ (upd (upd H s.heap.objs.size (.own (s.heap.objs.size+1))) (s.heap.objs.size+1) (.ins C s.heap.objs.size []))
  { s with heap:=(s.heap.push dO).push (fN C s.heap.objs.size) }:=by
 have e1:(s.heap.push dO).get? s.heap.objs.size=some dO:=Heap.get?_push_size s.heap rfl
 have e2:((s.heap.push dO).push (fN C s.heap.objs.size)).get? (s.heap.objs.size+1)=some (fN C s.heap.objs.size):=by
  have:=Heap.get?_push_size (s.heap.push dO) (o:=fN C s.heap.objs.size) rfl
  rwa [Heap.size_push] at this
 have e3:(s.heap.push dO).Ns s.heap.objs.size (fun _=>none):=⟨dO,#[],_,e1,rfl,(fun e he=>absurd he (by simp)),fun _=>rfl⟩
 have I1:=I.laid (a:=s.heap.objs.size) (o:=.own (s.heap.objs.size+1)) (h':=s.heap.push dO) (t':=s.toks) (fun b u q=>Heap.get?_push_of_some _ q) (aW _) ⟨_,e1⟩
 refine I1.laid (a:=s.heap.objs.size+1) (o:=.ins C s.heap.objs.size []) (t':=s.toks) (fun b u q=>Heap.get?_push_of_some _ q) (zJ (Heap.size_push _ _)) ?_
 have ne:s.heap.objs.size≠s.heap.objs.size+1:=cF (qB _)
 refine ⟨by rw [aM ne,aK],c8 _,ne,e2,fun _=>none,(Heap.Ns1.of_empty e3).at fun o q=>Heap.get?_push_of_some _ q,fun _=>True.intro,fun y hy=>absurd rfl hy⟩
theorem Nu {prog:Program} {w:World} {env:Env} {e:Expr} {f:Str} {pos:Pos} {s:Shared} {Q:Value→Shared→Prop} (hb:attributeBase e f env (eval e env)=eval e env)
  (h:wpAny (model prog w) A (eval e env) (fun o ft=>wpAny (model prog w) A (getAttr o f true) Q E ft) E s):wpAny (model prog w) A (eval (.Attribute e f pos) env) Q E s :=
 Attribute_any_ h (by rw [arm_eval_Attribute,hb])
end
def V_ (K:aa) (ta:TE) (f:Str):TE:=fun σ H Q=>ta σ H fun x H1=>∃a C dx fs v,x=.ref a∧H1 a=some (.ins C dx fs)∧MT K C∧iY K C f∧fs.lookup f=some v∧Q v H1
def Nv (K:aa) (ta tv:TE) (f:Str):TS:=fun D σ H=>tv σ H fun y H1=>ta σ H1 fun x H2=>∃a C dx fs,x=.ref a∧H2 a=some (.ins C dx fs)∧MT K C∧iY K C f∧fs.length < 1000 ∧
 D.nx σ (upd H2 a (.ins C dx (cX f y fs)))
section
variable {X:Cx} {o e value:Expr} {f:Str} {pos pos' uj:Pos} {ta tv:TE}
theorem jL (he:PE X e ta) (hb:attributeBase e f X.env (eval e X.env)=eval e X.env):PE X (.Attribute e f pos) (V_ X.K ta f):=by
 intro pins s σ H Q I h
 refine Nu hb (gX (he pins s σ H _ I h) fun u s1 ⟨x,H1,I1,rx,a,C,dx,fs,v,ex,ea,c,n,l,q⟩=>?_)
 subst ex
 obtain rfl:u=Value.ref a:=rx
 exact FV I1 ea c n l fun u' s2 I2 ru=>⟨v,H1,I2,ru,q⟩
theorem eH (ha:PE X o ta) (hv:PE X value tv) (hs:swapsWith value (some (.Attribute o f pos')) pos.line X.env=pure false):PS X (.Assign [.Attribute o f pos'] value pos) (Nv X.K ta tv f):=by
 intro pins s σ H D I h
 refine plainObj_wpAny_Assign_Attribute (gX (hv pins s σ H _ I h) fun u s1 ⟨y,H1,I1,ry,q⟩=>gX (ha pins s1 σ H1 _ I1 q) fun ov s2 ⟨x,H2,I2,rx,a,C,dx,fs,ex,ea,c,n,l,q2⟩=>?_) hs
 subst ex
 obtain rfl:ov=Value.ref a:=rx
 exact FW I2 ea c n l ry fun s3 I3=>⟨σ,_,I3,q2⟩
end
section
variable {X:Cx} {pins:List (Addr×Obj)} {σ:St} {H:Hp} {s:Shared} {A:Around} {E:Value→Shared→Prop} {Q:Value→Shared→Prop} {c:Value} {b:Bool}
end
end L2
namespace L2
open PySem PySem.Spec PyProof.Rows
structure jI (k:Nat) (A:Around):Prop where
 hd:A.handled=none
 dp:A.depth+3*k+5 < recursionLimit
 un:A.units+16*k+200 < cLine
theorem jI.mono {j k:Nat} {A:Around} (r:jI k A) (h:j≤k):jI j A:=⟨r.hd,by have:=r.dp;omega,by have:=r.un;omega⟩
theorem jI.deeper {k:Nat} {A:Around} (r:jI (k+1) A) (env:Env):jI k (A.deeper env) :=
 ⟨r.hd,by have:=r.dp;show A.depth+1+3*k+5 < _;omega,by have:=r.un;show A.units+3+16*k+200 < _;omega⟩
theorem jI.in1 {k:Nat} {A:Around} (r:jI (k+1) A):jI k A.in1 :=
 ⟨r.hd,by have:=r.dp;show A.depth+3*k+5 < _;omega,by have:=r.un;show A.units+1+16*k+200 < _;omega⟩
theorem FX {A:Around} {C:Addr} {us:List Value} {kw:List (Str×Value)}:(A.under (.builtin "type.__call__" ⟨.ref C::us,kw⟩)).depth=A.depth+1:=by
 first|rfl|simp [Around.under,Code.weight,Code.isCreation,Code.isGuard,Code.isCaller,Code.frames,Code.isFrame,guardIds]
theorem FY {A:Around} {C:Addr} {us:List Value} {kw:List (Str×Value)}:(A.under (.builtin "type.__call__" ⟨.ref C::us,kw⟩)).units=A.units+1:=by
 first|rfl|simp [Around.under,Code.cUnits,Code.frames,Code.isFrame]
theorem jI.make {k:Nat} {A:Around} (r:jI (k+1) A) (C:Addr) (us:List Value) (kw:List (Str×Value)):jI k (A.under (.builtin "type.__call__" ⟨.ref C::us,kw⟩)) :=
 ⟨r.hd,by have:=r.dp;rw [FX];omega,by have:=r.un;rw [FY];omega⟩
theorem jI.depth {k:Nat} {A:Around} (r:jI k A):A.depth < recursionLimit:=by have:=r.dp;omega
theorem jI.units {k:Nat} {A:Around} (r:jI k A):A.units+64 < cLine:=by have:=r.un;omega
def Jb:TA:=fun _ H Q=>Q [] H
def DP (ta:TE) (tr:TA):TA:=fun σ H Q=>ta σ H fun x H1=>tr σ H1 fun xs H2=>Q (x::xs) H2
section
variable {X:Cx} {e:Expr} {es:List Expr} {te:TE} {t:TA} {pos:Pos}
theorem cx:PA X [] Jb:=fun _ _ _ _ H Q I h=>Calls.spliced_nil ⟨[],H,I,.nil,h⟩
theorem bp (ha:PE X e te) (hr:PA X es t) (hs:starEach (e::es) X.env=(false,eval e X.env)::starEach es X.env:=by rfl):PA X (e::es) (DP te t):=by
 intro pos pins s σ H Q I h
 rw [hs]
 show wpAny _ _ (spliced ((false,eval e X.env)::backTo pos (starEach es X.env))) _ _ s
 refine Calls.spliced_cons (gX (ha pins s σ H _ I h) fun u s1 ⟨x,H1,I1,r1,q1⟩=>?_)
 exact gX (hr pos pins s1 σ H1 _ I1 q1) fun us s2 ⟨xs,H2,I2,r2,q2⟩=>⟨x::xs,H2,I2,.cons r1 r2,q2⟩
def Wa (t:TA):TE:=fun σ H Q=>t σ H fun xs H1=>xs.length≤sizeLine∧∀p,H1 p=none→Q (.ref p) (upd H1 p (.tup xs))
def Wb (t:TA):TE:=fun σ H Q=>t σ H fun xs H1=>xs.length≤sizeLine∧∀p,H1 p=none→Q (.ref p) (upd H1 p (.lst xs))
theorem KC {x1} (h:PA X es t):PE X (.Tuple es x1 pos) (Wa t):=by
 intro pins s σ H Q I hq
 refine wpAny_Tuple_spliced (gX (h pos pins s σ H _ I hq) fun us s1 ⟨xs,H1,I1,r,z,q⟩=>⟨by rw [←r.length];exact z,?_⟩)
 have hf:H1 s1.heap.objs.size=none:=I1.fR.fresh (aW _)
 refine ⟨.ref s1.heap.objs.size,upd H1 s1.heap.objs.size (.tup xs),I1.laid (t':=s1.toks) (fun b u e=>Heap.get?_push_of_some _ e) (aW _) ?_,rfl,q _ hf⟩
 exact ⟨z,us,r,⟨_,Heap.get?_push_size _ rfl,rfl,_,rfl⟩⟩
theorem uk (h:PA X es t):PE X (.List es pos) (Wb t):=by
 intro pins s σ H Q I hq
 refine wpAny_List_spliced (gX (h pos pins s σ H _ I hq) fun us s1 ⟨xs,H1,I1,r,z,q⟩=>⟨by rw [←r.length];exact z,?_⟩)
 have hf:H1 s1.heap.objs.size=none:=I1.fR.fresh (aW _)
 refine ⟨.ref s1.heap.objs.size,upd H1 s1.heap.objs.size (.lst xs),I1.laid (t':=s1.toks) (fun b u e=>Heap.get?_push_of_some _ e) (aW _) ?_,rfl,q _ hf⟩
 exact ⟨z,us,0,r,Heap.get?_push_size _ rfl⟩
end
abbrev Sp:=List V→Hp→VK→XK→Prop
abbrev Ho:=List Env→Hp→Shared→XK→Value→Shared→Prop
structure zU (P:Program) (w:World) (K:aa) (mg:Str→Option Value) (base:Heap) (A:Around) (outer:List Env) (s:Shared) (H:Hp):Prop where
 frames:A.frames=some outer
 mod:Mod K mg base
 bs:∀b o,base.get? b=some o→s.heap.get? b=some o∧H b=none
 Kf:base.objs.size≤s.heap.objs.size
 uf:s.heap.FunFrames base outer
 ON:∀b∈Ke outer,H b=none
 fR:sx P w H s.heap
 bare:AllBare s.gens
def CE (outer:List Env) (P:Program) (w:World) (H:Hp) (s:Shared) (Q:VK) (u:Value) (s':Shared):Prop :=
 ∃v H',s'.os=s.os∧AllBare s'.gens∧Un (Ke outer) [] H H' s.heap s'.heap∧sx P w H' s'.heap∧RelV v u∧Q v H'
def CR (CX:Ho) (outer:List Env) (P:Program) (w:World) (H:Hp) (s:Shared) (Q:VK) (E:XK) (r:Result) (s':Shared):Prop :=
 match r with
 | .ok (.ret u)=>CE outer P w H s Q u s'
 | .ok _=>False
 | .error e=>CX outer H s E e s'
structure eI (P:Program) (w:World) (K:aa) (mg:Str→Option Value) (base:Heap) (CX:Ho) (k:Nat) (f:Addr) (fd:FuncData) (ps:List Str) (sp:Sp):Prop where
 len:∀vs H Q E,sp vs H Q E→vs.length=ps.length
 run:∀(A:Around) (outer:List Env) (s:Shared) (H:Hp) (args:Args) (us:List Value) (vs:List V) (Q:VK) (E:XK),jI k A→zU P w K mg base A outer s H→BindsTo s fd args (ps.zip us)→Vals vs us→sp vs H Q E →
  codeAny (model P w) A (.call (.ref f) args) (CR CX outer P w H s Q E) s
theorem eI.mono {P:Program} {w:World} {K:aa} {mg:Str→Option Value} {base:Heap} {CX:Ho} {j k:Nat} {f:Addr} {fd:FuncData} {ps:List Str} {sp:Sp} (F:eI P w K mg base CX j f fd ps sp) (h:j≤k) :
  eI P w K mg base CX k f fd ps sp:=⟨F.len,fun A outer s H args us vs Q E hr=>F.run A outer s H args us vs Q E (hr.mono h)⟩
theorem eI.imp {P:Program} {w:World} {K:aa} {mg:Str→Option Value} {base:Heap} {CX:Ho} {k:Nat} {f:Addr} {fd:FuncData} {ps:List Str} {sp Yf:Sp} (F:eI P w K mg base CX k f fd ps sp)
  (h:∀vs H Q E,Yf vs H Q E→sp vs H Q E):eI P w K mg base CX k f fd ps Yf :=
 ⟨fun vs H Q E q=>F.len vs H Q E (h _ _ _ _ q),fun A outer s H args us vs Q E hr he hb hv hs=>F.run A outer s H args us vs Q E hr he hb hv (h _ _ _ _ hs)⟩
theorem zU.make {P:Program} {w:World} {K:aa} {mg:Str→Option Value} {base:Heap} {A:Around} {outer:List Env} {s:Shared} {H:Hp} (e:zU P w K mg base A outer s H) (C:Addr) (us:List Value) (kw:List (Str×Value)) :
  zU P w K mg base (A.under (.builtin "type.__call__" ⟨.ref C::us,kw⟩)) outer s H:=⟨by first|exact e.frames|(simpa [Around.under,Code.envs,Code.isFrame,pushEnvs] using e.frames),e.mod,e.bs,e.Kf,e.uf,e.ON,e.fR,e.bare⟩
theorem zU.in1 {P:Program} {w:World} {K:aa} {mg:Str→Option Value} {base:Heap} {A:Around} {outer:List Env} {s:Shared} {H:Hp} (e:zU P w K mg base A outer s H) :
  zU P w K mg base A.in1 outer s H:=⟨e.frames,e.mod,e.bs,e.Kf,e.uf,e.ON,e.fR,e.bare⟩
section
variable {X:Cx} {pins:List (Addr×Obj)} {σ:St} {H:Hp} {s s':Shared}
theorem Inv.SO (I:Inv X pins σ H s):zU X.prog X.w X.K X.mg X.base X.A X.stack s H :=
 ⟨I.ok.frames,I.ok.mod,I.bs,aO I.ok.Kf I.sz,I.stack,I.Hf,I.fR,I.bare⟩
theorem Inv.after {Q:VK} {u:Value} (I:Inv X pins σ H s) (h:CE X.stack X.prog X.w H s Q u s'):EP X pins σ Q u s':=by
 obtain ⟨v,H',os,bare,un,fR,r,q⟩:=h
 obtain ⟨hh,g,d,t,ZC⟩:=s'
 obtain rfl:ZC=s.os:=os
 exact ⟨v,H',I.call (h':=hh) (g':=g) (d':=d) (t':=t) (ch:=[]) un fR bare (fun b z=>absurd z (by simp)),r,q⟩
end
def Hq (sp:Sp) (FZ:List V) (E:XK) (t:TA):TE:=fun σ H Q=>t σ H fun vs H1=>sp (vs++FZ) H1 Q E
def OS (C:Addr) (sp:Sp) (FZ:List V) (E:XK) (t:TA):TE:=fun σ H Q=>t σ H fun vs H1=>∀x dx,H1 x=none→H1 dx=none→dx≠x →
 sp (.ref x::(vs++FZ)) (upd (upd H1 dx (.own x)) x (.ins C dx [])) (fun v H2=>v=.gg∧Q (.ref x) H2) E
def Binds (K:aa) (fd:FuncData) (ps:List Str) (ds:List Value):Prop :=
 ∀(s:Shared) (us:List Value),K.In s.heap→(us++ds).length=ps.length→BindsTo s fd ⟨us,[]⟩ (ps.zip (us++ds))
theorem Binds.all {K:aa} {fd:FuncData} {ps:List Str} (h:∀us:List Value,us.length=ps.length→bindArgs fd ⟨us,[]⟩=pure (ps.zip us)):Binds K fd ps []:=fun s us _ hl=>by
 rw [fT] at hl ⊢
 exact .of_eq (h us hl)
def Passes (CX:Ho) (X:Cx) (E:XK):Prop:=∀(pins:List (Addr×Obj)) (σ:St) (H:Hp) (s:Shared) (e:Value) (s':Shared),Inv X pins σ H s→CX X.stack H s E e s'→X.xe e s'
section
variable {X:Cx} {CX:Ho} {k:Nat} {f C:Addr} {fd:FuncData} {ps:List Str} {sp:Sp} {FZ:List V} {ds:List Value} {E:XK} {x m:Str} {p pos apos:Pos} {e o:Expr} {es:List Expr} {ta:TE} {t:TA}
theorem Qh {pins:List (Addr×Obj)} {σ:St} {H:Hp} {s:Shared} {Q:VK} {us:List Value} {vs:List V} (F:eI X.prog X.w X.K X.mg X.base CX k f fd ps sp) (hr:jI k X.A) (hb:Binds X.K fd ps ds) (hd:Vals FZ ds) (hx:Passes CX X E)
  (I:Inv X pins σ H s) (r:Vals vs us) (h:sp (vs++FZ) H Q E):wpAny (model X.prog X.w) X.A (call (.ref f) us) (EP X pins σ Q) X.xe s:=by
 have r2:Vals (vs++FZ) (us++ds):=r.append hd
 have hl:(us++ds).length=ps.length:=by rw [←r2.length];exact F.len _ _ _ _ h
 refine wpAny_call (codeAny_mono (F.run X.A X.stack s H ⟨us,[]⟩ (us++ds) (vs++FZ) Q E hr I.SO (hb s us I.Ki hl) r2 h) fun r s' hq=>?_)
 cases r with
 | error e=>exact hx pins σ H s e s' I hq
 | ok fl =>
  cases fl with
  | ret u=>exact I.after hq
  | next=>exact False.elim hq
  | brk=>exact False.elim hq
  | cont=>exact False.elim hq
theorem Hr (F:eI X.prog X.w X.K X.mg X.base CX k f fd ps sp) (hr:jI k X.A) (hg:Gl X x) (hm:X.mg x=some (.ref f)) (hk:dt X.K (.ref f)=true) (hb:Binds X.K fd ps ds) (hd:Vals FZ ds) (hx:Passes CX X E)
  (ha:PA X (e::es) t) (F7:(x == ("__debug__" : Str))=false:=by decide) (he:starEach (e::es) X.env=(false,eval e X.env)::starEach es X.env:=by rfl) (Jc:(backTo pos (starEach es X.env)).any (·.1)=false:=by rfl) :
  PE X (.Call (.Name x p) (e::es) [] pos) (Hq sp FZ E t):=by
 intro pins s σ H Q I h
 refine wpAny_Call_Name_kw (B0 I hg hm ?_ F7)
 refine PySem.W.callWith_K (h₀:=X.base) I.ok.mod.VN hk (gX (ha pos pins s σ H _ I h) fun us s1 ⟨vs,H1,I1,r,q⟩=>⟨I1.Ki,?_⟩) he Jc
 exact Qh F hr hb hd hx I1 r q
structure Mk (K:aa) (C f:Addr):Prop where
 makes:pH K C=true
 init:cK K (.ref C) "__init__" = some (some (.ref f))
 fn:FD K (.ref f)=true
 kp:dt K (.ref C)=true
theorem KD {pins:List (Addr×Obj)} {σ:St} {H:Hp} {s:Shared} {Q:VK} {us:List Value} {vs:List V} (M:Mk X.K C f) (F:eI X.prog X.w X.K X.mg X.base CX k f fd ps sp) (hr:jI (k+1) X.A) (hb:Binds X.K fd ps ds) (hd:Vals FZ ds)
  (hx:Passes CX X E) (I:Inv X pins σ H s) (r:Vals vs us)
  (h:∀x dx,H x=none→H dx=none→dx≠x→sp (.ref x::(vs++FZ)) (upd (upd H dx (.own x)) x (.ins C dx [])) (fun v H2=>v=.gg∧Q (.ref x) H2) E) :
  wpAny (model X.prog X.w) X.A (call (.ref C) us) (EP X pins σ Q) X.xe s:=by
 have hq:=h (s.heap.objs.size+1) s.heap.objs.size (I.fR.fresh (Nat.le_succ _)) (I.fR.fresh (aW _)) (cF (qB _))
 have I2:=Inv.made (C:=C) I
 have r2:Vals (V.ref (s.heap.objs.size+1)::(vs++FZ)) (Value.ref (s.heap.objs.size+1)::(us++ds)):=.cons rfl (r.append hd)
 have hl:(Value.ref (s.heap.objs.size+1)::us++ds).length=ps.length:=by
  have e:=r2.length
  rw [F.len _ _ _ _ hq] at e
  exact e.symm
 refine wpAny_call (KA (f:=f) I.Ki M.makes M.init (beq_iff_eq.mp M.fn) (codeAny_mono (F.run _ X.stack _ _ ⟨Value.ref (s.heap.objs.size+1)::us,[]⟩ (Value.ref (s.heap.objs.size+1)::(us++ds)) _ _ E (hr.make C us [])
  (I2.SO.make C us []) (hb _ (Value.ref (s.heap.objs.size+1)::us) I2.Ki hl) r2 hq) fun r s' OT=>?_))
 cases r with
 | error e=>exact hx pins σ _ _ e s' I2 OT
 | ok fl =>
  cases fl with
  | ret u =>
   obtain ⟨v,H',I3,rv,ev,q3⟩:=I2.after OT
   subst ev
   exact ⟨rv,⟨V.ref (s.heap.objs.size+1),H',I3,rfl,q3⟩⟩
  | next=>exact False.elim OT
  | brk=>exact False.elim OT
  | cont=>exact False.elim OT
theorem KG (M:Mk X.K C f) (F:eI X.prog X.w X.K X.mg X.base CX k f fd ps sp) (hr:jI (k+1) X.A) (hg:Gl X x) (hm:X.mg x=some (.ref C)) (hb:Binds X.K fd ps ds) (hd:Vals FZ ds) (hx:Passes CX X E)
  (F7:(x == ("__debug__" : Str))=false:=by decide):PE X (.Call (.Name x p) [] [] pos) (OS C sp FZ E Jb):=by
 intro pins s σ H Q I h
 refine wpAny_Call_Name_kw (B0 I hg hm ?_ F7)
 exact PySem.W.callWith_K0 I.Ki M.kp (KD (us:=[]) M F hr hb hd hx I .nil h)
end
section
variable {X:Cx} {CX:Ho} {k:Nat} {f C:Addr} {fd:FuncData} {ps ks:List Str} {sp:Sp} {E:XK} {x m:Str} {p pos apos ZD:Pos} {e o:Expr} {es:List Expr} {kws:List Keyword} {te ta:TE} {t tk:TA} {nm:Option Str}
variable {g:List Value→List Value→List Value} {gV:List V→List V→List V}
end
structure aR (N P:List Str) (sc:Scope):Prop where
 kind:sc.kind=.function
 co:sc.isCoroutine=false
 gen:sc.isGenerator=false
 nd:N.Nodup
 pre:N.take P.length=P
 par:∀x∈P,sc.names.lookup x=some .local∨sc.names.lookup x=some .cell
 Qi:∀y∈sc.names,y.2≠.free
theorem Ba {kindOf:Str→Option NameKind} {x:Str}:∀{binds:List (Str×Value)} {m:Str→Option Value},(∀v,(x,v) ∉ binds)→bindL kindOf binds m x=m x
 | [],_,_=>rfl
 | (n,v)::r,m,h=>by
  unfold bindL
  rw [Ba fun w hw=>h w (bq _ hw)]
  split
  ·have:x≠n:=by rintro rfl;exact h v cj
   simp [this]
  ·rfl
theorem Bb {kindOf:Str→Option NameKind} {x:Str}:∀{binds:List (Str×Value)} {m:Str→Option Value},(∀v,(x,v) ∉ binds)→bindC kindOf binds m x=m x
 | [],_,_=>rfl
 | (n,v)::r,m,h=>by
  unfold bindC
  rw [Bb fun w hw=>h w (bq _ hw)]
  split
  ·rfl
  ·have:x≠n:=by rintro rfl;exact h v cj
   simp [this]
theorem Bc {kindOf:Str→Option NameKind} {x:Str} {v:Value}:∀{P:List Str} {vs:List Value} {i:Nat} {m:Str→Option Value},P.Nodup→P[i]?=some x→vs[i]?=some v→kindOf x=some .local →
  bindL kindOf (P.zip vs) m x=some v
 | [],_,_,_,_,h,_,_=>by simp at h
 | _::_,[],_,_,_,_,h,_=>by simp at h
 | p::P,w::vs,0,m,nd,h1,h2,hk=>by
  simp at h1 h2;subst h1;subst h2
  show bindL kindOf ((p,w)::P.zip vs) m p=_
  unfold bindL
  rw [Ba fun v hv=>(rD.mp nd).1 (BQ hv).1,if_pos hk]
  simp
 | p::P,w::vs,i+1,m,nd,h1,h2,hk=>by
  show bindL kindOf ((p,w)::P.zip vs) m x=_
  unfold bindL
  exact Bc (i:=i) (rD.mp nd).2 (by simpa using h1) (by simpa using h2) hk
theorem Bd {kindOf:Str→Option NameKind} {x:Str} {v:Value}:∀{P:List Str} {vs:List Value} {i:Nat} {m:Str→Option Value},P.Nodup→P[i]?=some x→vs[i]?=some v→kindOf x≠some .local →
  bindC kindOf (P.zip vs) m x=some v
 | [],_,_,_,_,h,_,_=>by simp at h
 | _::_,[],_,_,_,_,h,_=>by simp at h
 | p::P,w::vs,0,m,nd,h1,h2,hk=>by
  simp at h1 h2;subst h1;subst h2
  show bindC kindOf ((p,w)::P.zip vs) m p=_
  unfold bindC
  rw [Bb fun v hv=>(rD.mp nd).1 (BQ hv).1,if_neg hk]
  simp
 | p::P,w::vs,i+1,m,nd,h1,h2,hk=>by
  show bindC kindOf ((p,w)::P.zip vs) m x=_
  unfold bindC
  exact Bd (i:=i) (rD.mp nd).2 (by simpa using h1) (by simpa using h2) hk
def start (N:List Str) (vs:List V):St:=vs.map some++aG (N.length - vs.length) none
def gY (CX:Ho) (P:Program) (w:World) (K:aa) (mg:Str→Option Value) (base:Heap) (N:List Str) (qual:Str) (scope:Scope) (f:Addr) (cd:Value) (A:Around) (outer:List Env) (s:Shared) (H:Hp) (E:XK):Cx where
 prog:=P
 w:=w
 K:=K
 mg:=mg
 base:=base
 A:=A.deeper (envOfC qual scope s.heap.objs.size f cd)
 N:=N
 A9:=s
 R_:=H
 env:=envOfC qual scope s.heap.objs.size f cd
 outer:=outer
 stack:=envOfC qual scope s.heap.objs.size f cd::outer
 ex:=[]
 calm:=true
 fn:=fun _=>true
 pn:=[]
 xe:=fun e s'=>wpAny (model P w) (A.deeper (envOfC qual scope s.heap.objs.size f cd)) (leaving (envOfC qual scope s.heap.objs.size f cd) e) (fun _ Wc=>CX outer H s E e Wc) (fun e' Wc=>CX outer H s E e' Wc) s'
theorem DQ {sc:Scope} {n:Nat} {x:Str} (h:sc.names.lookup x=some .cell):∃c,(cellsFrom n sc.names []).lookup x=some c:=by
 have q:=FE sc.names n [] (.inl h)
 exact Option.isSome_iff_exists.mp q
theorem Jd {CX:Ho} {P:Program} {w:World} {K:aa} {mg:Str→Option Value} {base:Heap} {N ps:List Str} {qual:Str} {scope:Scope} {f:Addr} {cd:Value} {A:Around} {outer:List Env} {s s1:Shared} {H:Hp} {E:XK} {us:List Value} {vs:List V}
  (S:aR N ps scope) (hd:A.handled=none) (e0:zU P w K mg base A outer s H) (hl:vs.length=ps.length) (r:Vals vs us)
  (x:InCallC s s.heap.objs.size (bindL (envOfC qual scope s.heap.objs.size f cd).kindOf (ps.zip us) fun _=>none) (cellsFrom (s.heap.objs.size+1) scope.names []) (bindC (envOfC qual scope s.heap.objs.size f cd).kindOf (ps.zip us) fun _=>none) s1) :
  Inv (gY CX P w K mg base N qual scope f cd A outer s H E) [] (start N vs) H s1:=by
 have Jc:ps.length≤N.length:=by have:=congrArg lZ S.pre;rw [c0] at this;omega
 obtain ⟨h1,tk,rfl,hk⟩:=x.done
 have RS:∀b:Addr,b ∉ (gY CX P w K mg base N qual scope f cd A outer s H E).ex:=fun b z=>absurd (show b∈([]:List Addr) from z) (by simp)
 refine ⟨⟨e0.mod,S.kind,rfl,rfl,aW _,fun y z c h1 h2=>?_,fun y hy=>?_,fun y c _ h=>?_,fun _=>hd,Around.frames_deeper e0.frames,.inr ⟨rfl,rfl⟩,fun b z=>absurd z (RS b),e0.bs,e0.Kf,fun b _ _=>RS b,fun b z=>absurd z (RS b),e0.uf,e0.ON⟩,
  rfl,e0.bare,Un.kept hk,⟨_,x.toInCall.ns,fun i y v h1 h2 h3=>?_⟩,fun y c h=>⟨_,x.cell y c h⟩,e0.fR.fresh (aW _),fun y c h=>?_,fun p hp=>absurd (show p∈([]:List (Addr×Obj)) from hp) (by simp),e0.fR.kept hk,?_⟩
 ·exact name_of_addr x.apart (PySem.mem_of_lookup h1) (PySem.mem_of_lookup h2)
 ·have hy:scope.names.lookup y=some .cell∨scope.names.lookup y=some .free:=hy
  rcases hy with hy|hy
  ·exact DQ hy
  ·exact absurd rfl (S.Qi _ (PySem.mem_of_lookup hy))
 ·exact JX (x.above y c (PySem.mem_of_lookup h))
 ·have hi:i < vs.length:=by
   unfold start at h2
   by_cases hi:i < vs.length
   ·exact hi
   ·rw [iJ (by simpa using hi)] at h2
    rw [pI] at h2
    split at h2<;>cases h2
  have ha:vs[i]?=some v:=by
   unfold start at h2
   rw [i5 (by simpa using hi),b8] at h2
   cases e:vs[i]? with
   | none=>rw [e] at h2;cases h2
   | some a=>rw [e] at h2;cases h2;rfl
  obtain ⟨u,hu,rv⟩:=r.get ha
  have hp:ps[i]?=some y:=by
   rw [←S.pre,List.getElem?_take_of_lt (by omega)];exact h1
  have Yg:ps.Nodup:=by rw [←S.pre];exact S.nd.sublist (List.take_sublist _ _)
  refine ⟨u,rv,?_⟩
  rcases S.par y (b7 hp) with k|k
  ·exact .inl ⟨k,Bc Yg hp hu k⟩
  ·obtain ⟨c,e⟩:=DQ (n:=s.heap.objs.size+1) k
   refine .inr ⟨.inl k,c,e,?_⟩
   have q:=x.cell y c e
   rw [Bd Yg hp hu (by show scope.names.lookup y≠_;rw [k];decide)] at q
   exact q
 ·exact e0.fR.fresh (JX (x.above y c (PySem.mem_of_lookup h)))
 ·unfold start
  show _=N.length
  rw [ax,af,c9]
  omega
theorem SQ {CX:Ho} {P:Program} {w:World} {K:aa} {mg:Str→Option Value} {base:Heap} {k:Nat} {f:Addr} {name qual:Str} {params:Arguments} {body:List Stmt} {scope:Scope} {dV kV doc pm eU ct oc:Value} {an od:Option Addr}
  {zO:Array (Option Value)} {N ps:List Str} {sp:Sp} (lk:K.lookup f=some ⟨oc,od,.func (e8 name qual params body scope dV kV doc pm an eU ct),zO⟩) (Kj:iy K eU qual=true) (S:aR N ps scope)
  (len:∀vs H Q E,sp vs H Q E→vs.length=ps.length)
  (KH:∀(A:Around) (outer:List Env) (s:Shared) (H:Hp) (vs:List V) (Q:VK) (E:XK),jI k (A.deeper (envOfC qual scope s.heap.objs.size f eU))→sp vs H Q E →
   ∃t,vO (gY CX P w K mg base N qual scope f eU A outer s H E) body t∧t { nx:=fun _ H'=>Q .gg H',rt:=Q } (start N vs) H) :
  eI P w K mg base CX (k+1) f (e8 name qual params body scope dV kV doc pm an eU ct) ps sp:=by
 refine ⟨len,fun A outer s H args us vs Q E hr e0 hb r MU=>?_⟩
 have hl:=len _ _ _ _ MU
 have KX:K.In s.heap:=e0.mod.VN.keeps fun b o e=>(e0.bs b o e).1
 have lim:s.heap.NoLimit:=e0.mod.nolimit.keeps fun b o e=>(e0.bs b o e).1
 have SR:∀y∈ps.zip us,scope.names.lookup y.1=some .local∨(scope.names.lookup y.1=some .cell∧((cellsFrom (s.heap.objs.size+1) scope.names []).lookup y.1).isSome=true):=fun ⟨n,v⟩ hy=>by
  rcases S.par n (BQ hy).1 with q|q
  ·exact .inl q
  ·exact .inr ⟨q,FE _ _ _ (.inl q)⟩
 refine codeAny_call_function hr.depth (KX _ _ lk) rfl S.co S.gen rfl (PySem.W.codeRec_of KX Kj) (hb _ _ _ _ ?_)
 refine wpAny_newFunctionEnv_cells S.kind SR fun env he s1 x=>?_
 subst he
 refine ⟨lim.keeps x.toInCall.keep,codeAny_func ?_⟩
 obtain ⟨t,ht,hq⟩:=KH A outer s H vs Q E (hr.deeper _) MU
 have I:Inv (gY CX P w K mg base N qual scope f eU A outer s H E) [] (start N vs) H s1:=Jd S hr.hd e0 hl r x
 refine wpAny_mono (ht [] s1 (start N vs) H _ I hq) (fun fl s' hs=>?_) fun e s' hs=>hs
 have fin:∀{fb:St} {H':Hp} {v:V} {u:Value},Inv (gY CX P w K mg base N qual scope f eU A outer s H E) [] fb H' s'→RelV v u→Q v H'→CE outer P w H s Q u s' :=
  fun {fb H' v u} J rv q=>⟨v,H',J.os,J.bare,J.base,J.fR,rv,q⟩
 cases fl with
 | ret u =>
  obtain ⟨v,fb,H',J,rv,q⟩:=hs
  exact fin J rv q
 | next =>
  obtain ⟨fb,H',J,q⟩:=hs
  exact fin (v:=V.gg) (u:=Value.none) J rfl q
 | brk =>
  obtain ⟨_,_,_,q⟩:=hs
  exact False.elim q
 | cont =>
  obtain ⟨_,_,_,q⟩:=hs
  exact False.elim q
end L2
namespace L2
open PySem PySem.Spec PyProof.Rows
section
variable {X:Cx} {x:Str} {p pos:Pos} {e:Expr} {es:List Expr} {t:TA} {id T:String} {r:List V→Hp→VK→Prop}
def We (r:List V→Hp→VK→Prop) (t:TA):TE:=fun σ H Q=>t σ H fun vs H1=>r vs H1 Q
theorem DR (hc:sA X (.builtin id) r) (hg:Gl X x) (hm:X.mg x=none) (hv:bootBuiltins x=some (.builtin id)) (ha:PA X (e::es) t) (hn:x ≠ "__name__" := by decide) (F7:(x == ("__debug__" : Str))=false:=by decide)
  (he:starEach (e::es) X.env=(false,eval e X.env)::starEach es X.env:=by rfl) (Jc:(backTo pos (starEach es X.env)).any (·.1)=false:=by rfl):PE X (.Call (.Name x p) (e::es) [] pos) (We r t):=by
 intro pins s σ H Q I h
 refine wpAny_Call_Name_kw (oo I hg hm hv ?_ hn F7)
 exact PyProof.Rows.callWith_builtin1 (gX (ha pos pins s σ H _ I h) fun us s1 ⟨vs,H1,I1,r1,q1⟩=>hc pins s1 σ H1 vs us Q I1 r1 q1) he Jc
theorem lV (hc:sA X (.type T) r) (hg:Gl X x) (hm:X.mg x=none) (hv:bootBuiltins x=some (.type T)) (ha:PA X (e::es) t) (hn:x ≠ "__name__" := by decide) (F7:(x == ("__debug__" : Str))=false:=by decide)
  (he:starEach (e::es) X.env=(false,eval e X.env)::starEach es X.env:=by rfl) (Jc:(backTo pos (starEach es X.env)).any (·.1)=false:=by rfl):PE X (.Call (.Name x p) (e::es) [] pos) (We r t):=by
 intro pins s σ H Q I h
 refine wpAny_Call_Name_kw (oo I hg hm hv ?_ hn F7)
 exact PyProof.Rows.callWith_type1 (gX (ha pos pins s σ H _ I h) fun us s1 ⟨vs,H1,I1,r1,q1⟩=>hc pins s1 σ H1 vs us Q I1 r1 q1) he Jc
end
end L2
namespace HT
open PySem PyProof.Rows
section
open PySem.SeqAt
open PySem.AutoSeq1 (wpAny_loadPart')
open PySem.MeetsSeq PySem.MeetsSeq2 PySem.MeetsSeq3
end
section
variable {prog:Program} {w:World} {A:Around} {E:Value→Shared→Prop} {s:Shared}
def DS (n d:Nat):Option Int→Nat
 | none=>d
 | some v=>if v < 0 then (v+(n:Int)).toNat else min v.toNat n
theorem Ny (n d k:Nat):DS n d (some (k:Int))=min k n:=by
 show (if (k:Int) < 0 then ((k:Int)+(n:Int)).toNat else min (k:Int).toNat n)=min k n
 rw [if_neg (by omega),iD]
end
end HT
namespace L2
open PySem PySem.Spec PyProof.Rows
abbrev TO:=St→Hp→(Option Int→Hp→Prop)→Prop
def PO (X:Cx) (e:Option Expr) (t:TO):Prop :=
 ∀(pins:List (Addr×Obj)) (s:Shared) (σ:St) (H:Hp) (Q:Option Int→Hp→Prop),Inv X pins σ H s→t σ H Q →
  wpAny (model X.prog X.w) X.A (evalPart e X.env) (fun u s'=>∃o H',Inv X pins σ H' s'∧IsPart u o∧Q o H') X.xe s
def Nz:TO:=fun _ H Q=>Q none H
def SS (t:TE):TO:=fun σ H Q=>t σ H fun x H1=>∃i,x=.int i∧Q (some i) H1
theorem intsAre_of {ns:List Int}:∀{us:List Value},Vals (ns.map V.int) us→IntsAre us ns:=by
 induction ns with
 | nil=>intro us r;rw [xC] at r;cases r;exact .nil
 | cons n ns ih =>
  intro us r
  rw [aN] at r
  cases r with
  | cons r1 r2 =>
   obtain ⟨t,e⟩:=r1
   subst e
   exact .cons n t (ih r2)
section
variable {X:Cx} {e:Expr} {te:TE} {lo hi:Option Expr} {tl th:TO} {pos p2:Pos}
theorem NA:PO X none Nz:=by
 intro pins s σ H Q I h
 rw [evalPart_none]
 exact wpAny_pure ⟨none,H,I,.none,h⟩
theorem sD (h:PE X e te):PO X (some e) (SS te):=by
 intro pins s σ H Q I hw
 rw [evalPart_some]
 refine gX (h pins s σ H _ I hw) fun u s1 ⟨x,H1,I1,r1,q1⟩=>?_
 obtain ⟨i,rfl,q⟩:=q1
 obtain ⟨t,rfl⟩:=r1
 exact ⟨some i,H1,I1,.int i t,q⟩
def Yh (X:Cx) (r:V→Option Int→Option Int→Hp→VK→Prop):Prop :=
 ∀(pins:List (Addr×Obj)) (s:Shared) (σ:St) (H:Hp) (x:V) (v vl vu:Value) (lo hi:Option Int) (sl:Addr) (Q:VK),Inv X pins σ H s→RelV x v→s.heap.IsSliceOf sl vl vu .none→IsPart vl lo→IsPart vu hi→r x lo hi H Q →
  ∃T id,typeLookup (.type T) "__getitem__" = pure (some (.builtin id))∧s.TypeIs v T∧wpAny (model X.prog X.w) X.A (getItem v (.ref sl)) (EP X pins σ Q) X.xe s
def ZE (r:V→Option Int→Option Int→Hp→VK→Prop) (te:TE) (tl th:TO):TE:=fun σ H Q=>te σ H fun x H1=>tl σ H1 fun l H2=>th σ H2 fun u H3=>r x l u H3 Q
theorem xJ {r:V→Option Int→Option Int→Hp→VK→Prop} (hr:Yh X r) (he:PE X e te) (hl:PO X lo tl) (hu:PO X hi th):PE X (.Subscript e (.Slice lo hi none p2) pos) (ZE r te tl th):=by
 intro pins s σ H Q I h
 refine Subscript_ (gX (he pins s σ H _ I h) fun v s1 ⟨x,H1,I1,r1,q1⟩=>?_)
 refine wpAny_Slice (gX (hl pins s1 σ H1 _ I1 q1) fun vl s2 ⟨l,H2,I2,pl,q2⟩=>gX (hu pins s2 σ H2 _ I2 q2) fun vu s3 ⟨u,H3,I3,pu,q3⟩=>?_)
 rw [evalPart_none]
 refine wpAny_pure ?_
 have I4:Inv X pins σ H3 { s3 with heap:=s3.heap.push { cls:=.type "slice",data:=.fields #[vl,vu,.none] } }:=I3.kept (t':=s3.toks) fun b ob q=>Heap.get?_push_of_some _ q
 obtain ⟨T,id,hT,ht,hg⟩:=hr pins { s3 with heap:=s3.heap.push { cls:=.type "slice",data:=.fields #[vl,vu,.none] } } σ H3 x v vl vu l u s3.heap.objs.size Q I4 r1 (Heap.IsSliceOf.new ..) pl pu q3
 show wpAny (model X.prog X.w) X.A (subscriptTail e (.Slice lo hi none p2) v (.ref s3.heap.objs.size)) (EP X pins σ Q) X.xe { s3 with heap:=s3.heap.push { cls:=.type "slice",data:=.fields #[vl,vu,.none] } }
 exact tail_any (ops:=[.ref s3.heap.objs.size,v]) ht hT hg (by with_unfolding_all rfl)
def DT (xs:List V) (lo hi:Option Int):List V:=(xs.drop (HT.DS xs.length 0 lo)).take (HT.DS xs.length xs.length hi - HT.DS xs.length 0 lo)
theorem DU (xs:List V) (lo hi:Option Int):(DT xs lo hi).length≤xs.length:=by
 unfold DT
 rw [c0,zS]
 omega
end
end L2
namespace L2
open PySem PySem.Spec PyProof.Rows
def MV (n:Nat) (i:Int):Option Nat:=if 0≤i then (if i < n then some i.toNat else none) else if -(n:Int)≤i then some (i+n).toNat else none
def OU {α:Type} (xs:List α) (i:Int):Option α:=(MV xs.length i).bind fun j=>xs[j]?
theorem B4 {n:Nat} {i:Int} {j:Nat} (h:MV n i=some j):seqIndex? i n=some j∧j < n∧-(n:Int)≤i∧i < n:=by
 unfold MV at h
 by_cases h0:0≤i
 ·rw [if_pos h0] at h
  by_cases h1:i < n
  ·rw [if_pos h1] at h
   have e:i.toNat=j:=bA.inj h
   exact ⟨by rw [seqIndex_of h0 h1,e],by omega,by omega,h1⟩
  ·rw [if_neg h1] at h;cases h
 ·rw [if_neg h0] at h
  by_cases h1:-(n:Int)≤i
  ·rw [if_pos h1] at h
   have e:(i+n).toNat=j:=bA.inj h
   exact ⟨by rw [seqIndex_neg (by omega) h1,e],by omega,h1,by omega⟩
  ·rw [if_neg h1] at h;cases h
theorem Hs {α:Type} {xs:List α} {i:Int} {v:α} (h:OU xs i=some v):∃j,seqIndex? i xs.length=some j∧xs[j]?=some v∧j < xs.length∧-(xs.length:Int)≤i∧i < xs.length:=by
 unfold OU at h
 cases e:MV xs.length i with
 | none=>rw [e] at h;cases h
 | some j =>
  rw [e] at h
  obtain ⟨h1,h2,h3,h4⟩:=B4 e
  exact ⟨j,h1,h,h2,h3,h4⟩
theorem Ht {α:Type} {xs:List α} {j:Nat} {v:α} (h:xs[j]?=some v):OU xs (j:Int)=some v:=by
 have hj:j < xs.length:=(cw.mp h).1
 have e:MV xs.length (j:Int)=some j:=by
  unfold MV
  rw [if_pos (by omega),if_pos (by omega)];simp
 unfold OU;rw [e];exact h
def Hu (b:Expr):Prop:=∀o i,subscripted b false o i=operate [o,i] (getItem o i)
def OV (X:Cx) (r:R2):Prop :=
 ∀(value slice:Expr) (pins:List (Addr×Obj)) (s:Shared) (σ:St) (H:Hp) (x y:V) (v u:Value) (Q:VK),Inv X pins σ H s→RelV x v→RelV y u→r x y H Q →
  subscripted slice false v u=operate [v,u] (getItem v u)→wpAny (model X.prog X.w) X.A (subscriptTail value slice v u) (EP X pins σ Q) X.xe s
def Vf (X:Cx) (id:String) (r:V→List V→Hp→VK→Prop):Prop :=
 ∀(pins:List (Addr×Obj)) (s:Shared) (σ:St) (H:Hp) (x:V) (xs:List V) (v:Value) (us:List Value) (Q:VK),Inv X pins σ H s→RelV x v→Vals xs us→r x xs H Q →
  wpAny (model X.prog X.w) X.A (call (.builtin id) (v::us)) (EP X pins σ Q) X.xe s
section
variable {X:Cx} {a b:Expr} {ta tb:TE} {pos:Pos}
theorem OV.or {r r':R2} (h:OV X r) (h':OV X r'):OV X (fun x y H Q=>r x y H Q∨r' x y H Q):=by
 intro value slice pins s σ H x y v u Q I rx ry q hs
 rcases q with q|q
 ·exact h value slice pins s σ H x y v u Q I rx ry q hs
 ·exact h' value slice pins s σ H x y v u Q I rx ry q hs
theorem Hv {r:R2} (hr:OV X r) (ha:PE X a ta) (hb:PE X b tb) (hs:Hu b):PE X (.Subscript a b pos) (SD r ta tb):=by
 intro pins s σ H Q I h
 exact Subscript_ (P8 ha hb I h fun v u s2 x y H2 I2 rx ry q=>hr a b pins s2 σ H2 x y v u Q I2 rx ry q (hs _ _))
def Wg (K:aa):R2:=fun x y H Q=>∃p xs i v,x=.ref p∧y=.int i∧eS K H p xs∧OU xs i=some v∧Q v H
def Wh (K:aa):R2:=fun x y H Q=>∃p xs i v,x=.ref p∧y=.int i∧xG K H p xs∧OU xs i=some v∧Q v H
theorem wO:OV X (Wg X.K):=by
 intro value slice pins s σ H x y v u Q I rx ry h hs
 obtain ⟨p,xs,i,z,rfl,rfl,hq,he,q⟩:=h
 cases rx
 obtain ⟨t,rfl⟩:=ry
 obtain ⟨bR,r,pl,hz⟩:=I.list hq
 obtain ⟨j,h1,h2,h3,h4,h5⟩:=Hs he
 obtain ⟨w,ew,SU⟩:=r.get h2
 have hl:=r.length
 have hn:=B3
 have fin:EP X pins σ Q w s:=⟨z,H,I,SU,q⟩
 by_cases h0:0≤i
 ·have hj:i.toNat=j:=by
   rw [seqIndex_of h0 h5] at h1
   exact bA.inj h1
  exact item_listR pl.isList h0 (by omega) (by rw [hj];simpa using ew) fin hs
 ·have hj:(i+(bR.toArray.size:Int)).toNat=j:=by
   rw [seqIndex_neg (by omega) h4] at h1
   rw [aH,←hl]
   exact bA.inj h1
  exact subscriptTail_builtinR (x:=w) pl.isList.typeIs slot_list_getitem.lookup
   (wpAny_getItem_list_neg (Q:=fun r s'=>r=w∧EP X pins σ Q r s') pl.isList (by omega) (by rw [aH]<;>omega) (by omega) (by rw [hj];simpa using ew) ⟨rfl,fin⟩) hs
theorem Qj:OV X (Wh X.K):=by
 intro value slice pins s σ H x y v u Q I rx ry h hs
 obtain ⟨p,xs,i,z,rfl,rfl,hq,he,q⟩:=h
 cases rx
 obtain ⟨t,rfl⟩:=ry
 obtain ⟨bR,r,pl,hz⟩:=I.tuple hq
 obtain ⟨j,h1,h2,h3,h4,h5⟩:=Hs he
 obtain ⟨w,ew,SU⟩:=r.get h2
 have hl:=r.length
 have hn:=B3
 have fin:EP X pins σ Q w s:=⟨z,H,I,SU,q⟩
 exact subscriptTail_builtinR (x:=w) pl.typeIs slot_tuple_getitem.lookup
  (getItem_tuple (j:=j) (Q:=fun r s'=>r=w∧EP X pins σ Q r s') pl (by omega) (by omega) (by rw [aH,←hl];exact h1) (by simpa using ew) ⟨rfl,fin⟩) hs
theorem F8 (bR:List Value) (n j:Nat) (u:Value):Obj.mapSeq (·.setIfInBounds j u) { cls:=.type "list",data:=.seq bR.toArray n }={ cls:=.type "list",data:=.seq (bR.set j u).toArray n }:=by
 simp [Obj.mapSeq]
theorem Inv.lst {pins:List (Addr×Obj)} {σ:St} {H:Hp} {s:Shared} {p:Addr} {xs:List V} (I:Inv X pins σ H s) (h:H p=some (.lst xs)) :
  ∃(bR:List Value) (n:Nat),Vals xs bR∧s.heap.get? p=some { cls:=.type "list",data:=.seq bR.toArray n }∧xs.length≤sizeLine:=by
 obtain ⟨z,bR,n,r,e⟩:=I.fR p _ h
 exact ⟨bR,n,r,e,z⟩
theorem Inv.Qk {pins:List (Addr×Obj)} {σ:St} {H:Hp} {s:Shared} {p:Addr} {xs ys:List V} {bR its':List Value} {n n':Nat} {f:Obj→Obj} (I:Inv X pins σ H s) (h:H p=some (.lst xs))
  (ho:s.heap.get? p=some { cls:=.type "list",data:=.seq bR.toArray n }) (hf:f { cls:=.type "list",data:=.seq bR.toArray n }={ cls:=.type "list",data:=.seq its'.toArray n' }) (r:Vals ys its') (hz:ys.length≤sizeLine) (t:Nat) :
  Inv X pins σ (upd H p (.lst ys)) { s with heap:=s.heap.update p f,toks:=t }:=by
 have e:(s.heap.update p f).get? p=some { cls:=.type "list",data:=.seq its'.toArray n' }:=by
  rw [Heap.get?_update_self f ho (by rw [hf]<;>rfl),hf]
 refine I.write (x:=p) (e:=p) (by rw [h];trivial) (.inl rfl) (fun b u hb q=>(Heap.get?_update_other _ _ (Ne.symm hb)).trans q) ⟨_,e⟩ ?_
 exact ⟨hz,its',n',r,e⟩
def SV:V→V→V→Hp→(Hp→Prop)→Prop:=fun o i v H Q=>∃p xs k j,o=.ref p∧i=.int k∧H p=some (.lst xs)∧MV xs.length k=some j∧Q (upd H p (.lst (xs.set j v)))
theorem set_list:So X SV:=by
 intro pins s σ H o i v ov iv u Q I ro ri rv h
 obtain ⟨p,xs,k,j,rfl,rfl,hp,hj,q⟩:=h
 cases ro
 obtain ⟨t,rfl⟩:=ri
 obtain ⟨bR,n,r,ho,hz⟩:=I.lst hp
 obtain ⟨h1,h2,h3,h4⟩:=B4 hj
 have hl:=r.length
 have hn:=B3
 have I':Inv X pins σ (upd H p (.lst (xs.set j v))) { s with heap:=s.heap.update p (Obj.mapSeq (·.setIfInBounds j u)) } :=
  I.Qk hp ho (F8 bR n j u) (r.set rv j) (by rw [cO];exact hz) s.toks
 by_cases h0:0≤k
 ·have hk:k.toNat=j:=by
   rw [seqIndex_of h0 h4] at h1
   exact bA.inj h1
  exact PySem.W.ki_setAt ho h0 (by omega) (by rw [aH,←hl];exact h4) (by rw [hk];exact ⟨_,I',q⟩)
 ·have hk:(k+(bR.toArray.size:Int)).toNat=j:=by
   rw [seqIndex_neg (by omega) h3] at h1
   rw [aH,←hl]
   exact bA.inj h1
  exact PySem.W.ki_setBack ho (by omega) (by rw [aH,←hl];exact h3) (by omega) (by rw [hk];exact ⟨_,I',q⟩)
theorem B5 (lo hi:Option Int) (n:Nat):(sliceBounds lo hi none n).1=((HT.DS n 0 lo:Nat):Int)∧(sliceBounds lo hi none n).2.1=((HT.DS n n hi:Nat):Int)∧(sliceBounds lo hi none n).2.2=1:=by
 refine ⟨?_,?_,rfl⟩
 ·cases lo with
  | none=>simp [sliceBounds,HT.DS]
  | some i =>
   simp only [sliceBounds,HT.DS,M8,show (1:Int) > 0 by decide,if_true]
   by_cases h:i < 0
   ·simp only [h,if_true]<;>omega
   ·simp only [h,if_false]<;>omega
 ·cases hi with
  | none=>simp [sliceBounds,HT.DS]
  | some i =>
   simp only [sliceBounds,HT.DS,M8,show (1:Int) > 0 by decide,if_true]
   by_cases h:i < 0
   ·simp only [h,if_true]<;>omega
   ·simp only [h,if_false]<;>omega
theorem zV (bR:List Value) (lo hi:Option Int):slicePick bR.toArray lo hi none=((bR.drop (HT.DS bR.length 0 lo)).take (HT.DS bR.length bR.length hi - HT.DS bR.length 0 lo)).toArray:=by
 obtain ⟨h1,h2,h3⟩:=B5 lo hi bR.toArray.size
 unfold slicePick
 rw [h1,h2,h3]
 simp only [sliceRange_one,pick_run,aH]<;>rfl
def Wi (K:aa):V→Option Int→Option Int→Hp→VK→Prop:=fun x lo hi H Q=>∃a xs,x=.ref a∧eS K H a xs∧∀p,H p=none→Q (.ref p) (upd H p (.lst (DT xs lo hi)))
theorem B6:Yh X (Wi X.K):=by
 intro pins s σ H x v vl vu lo hi sl Q I rx hs pl pu h
 obtain ⟨a,xs,rfl,hx,q⟩:=h
 cases rx
 obtain ⟨bR,r,ht,hz⟩:=I.list hx
 have hlen:=r.length
 refine ⟨"list",_,slot_list_getitem.lookup,ht.isList.typeIs,?_⟩
 refine wpAny_getItem_list_slice ht.isList hs pl pu .none (by simp) ?_ (by rw [aH]<;>omega)
 rw [zV,←hlen]
 refine ⟨.ref s.heap.objs.size,_,I.laid (t':=s.toks) (o:=.lst (DT xs lo hi)) (fun b ob q=>Heap.get?_push_of_some _ q) (aW _) ?_,rfl,q _ (I.fR.fresh (aW _))⟩
 exact ⟨aO (DU xs lo hi) hz,_,0,(r.drop (HT.DS xs.length 0 lo)).take (HT.DS xs.length xs.length hi - HT.DS xs.length 0 lo),Heap.get?_push_size _ rfl⟩
def sG:V→Bool
 | .gg=>true
 | .bl _=>true
 | .int _=>true
 | .str _=>true
 | _=>false
def MW:V→V→Bool
 | .gg,.gg=>true
 | .bl a,.bl b=>a == b
 | .bl a,.int b=>(if a then 1 else 0) == b
 | .int a,.bl b=>a == (if b then 1 else 0)
 | .int a,.int b=>a == b
 | .str a,.str b=>a == b
 | _,_=>false
theorem Ql {A:Around} {s:Shared} {y x:V} {u v:Value} (ry:RelV y u) (rx:RelV x v) (fy:sG y=true) (fx:sG x=true):SeqAt.EqAt A s u v (MW y x):=by
 cases y with
 | gg =>
  cases ry
  cases x with
  | gg=>cases rx;exact SeqAt.EqAt.same _
  | bl b=>cases rx;exact SeqAt.EqAt.none_bool b
  | int b=>obtain ⟨t,rfl⟩:=rx;exact SeqAt.EqAt.none_int b t
  | str b=>obtain ⟨t,rfl⟩:=rx;exact SeqAt.EqAt.none_str b t
  | _=>exact absurd (show false=true from fx) aQ
 | bl a =>
  cases ry
  cases x with
  | gg=>cases rx;exact SeqAt.EqAt.bool_none a
  | bl b=>cases rx;exact SeqAt.EqAt.bool_bool a b
  | int b=>obtain ⟨t,rfl⟩:=rx;exact SeqAt.EqAt.bool_int a b t
  | str b=>obtain ⟨t,rfl⟩:=rx;exact SeqAt.EqAt.bool_str a b t
  | _=>exact absurd (show false=true from fx) aQ
 | int a =>
  obtain ⟨t',rfl⟩:=ry
  cases x with
  | gg=>cases rx;exact SeqAt.EqAt.int_none a t'
  | bl b=>cases rx;exact SeqAt.EqAt.int_bool a t' b
  | int b=>obtain ⟨t,rfl⟩:=rx;exact SeqAt.EqAt.int_int a t' b t
  | str b=>obtain ⟨t,rfl⟩:=rx;exact SeqAt.EqAt.int_str a t' b t
  | _=>exact absurd (show false=true from fx) aQ
 | str a =>
  obtain ⟨t',rfl⟩:=ry
  cases x with
  | gg=>cases rx;exact SeqAt.EqAt.str_none a t'
  | bl b=>cases rx;exact SeqAt.EqAt.str_bool a t' b
  | int b=>obtain ⟨t,rfl⟩:=rx;exact SeqAt.EqAt.str_int a t' b t
  | str b=>obtain ⟨t,rfl⟩:=rx;exact SeqAt.EqAt.str_str a t' b t
  | _=>exact absurd (show false=true from fx) aQ
 | _=>exact absurd (show false=true from fy) aQ
def F9 (x:V) (u:Value):Bool:=match u with
 | .none=>MW .gg x
 | .bool b=>MW (.bl b) x
 | .int i _=>MW (.int i) x
 | .str z _=>MW (.str z) x
 | _=>false
theorem KI {x y:V} {u:Value} (r:RelV y u) (f:sG y=true):F9 x u=MW y x:=by
 cases y with
 | gg=>cases r;rfl
 | bl b=>cases r;rfl
 | int i=>obtain ⟨t,rfl⟩:=r;rfl
 | str z=>obtain ⟨t,rfl⟩:=r;rfl
 | _=>exact absurd (show false=true from f) aQ
theorem sJ {x:V}:∀{xs:List V} {us:List Value},Vals xs us→xs.all sG=true→us.any (F9 x)=xs.any fun y=>MW y x
 | _,_,.nil,_=>rfl
 | y::xs,u::us,.cons r t,f=>by
  rw [dk,ag] at f
  rw [lS,lS,KI r f.1,sJ t f.2]
theorem pR {A:Around} {s:Shared} {x:V} {v:Value} (rx:RelV x v) (fx:sG x=true):∀{xs:List V} {us:List Value},Vals xs us→xs.all sG=true→∀u∈us,SeqAt.EqAt A s u v (F9 x u)
 | _,_,.nil,_=>fun u hu=>by cases hu
 | y::xs,u::us,.cons r t,f=>fun u' hu=>by
  rw [dk,ag] at f
  rcases aF.mp hu with rfl|hu
  ·rw [KI r f.1];exact Ql r rx f.1 fx
  ·exact pR rx fx t f.2 u' hu
def SW (x:V) (xs:List V):Bool:=xs.any fun y=>MW y x
def Wj (K:aa) (neg:Bool):R2:=fun x y H Q=>∃p xs,y=.ref p∧(eS K H p xs∨xG K H p xs)∧sG x=true∧xs.all sG=true∧Q (.bl (if neg then !SW x xs else SW x xs)) H
theorem Je:ka X (compareOp .In) (Wj X.K false):=by
 intro pins s σ H x y v u Q I rx ry h
 obtain ⟨p,xs,rfl,hq,fx,fs,q⟩:=h
 cases ry
 rcases hq with hq|hq
 ·obtain ⟨bR,r,pl,hz⟩:=I.list hq
  refine SeqAt.in_listAt (F9 x) pl.isList (fun w hw=>pR rx fx r fs w (by simpa using hw)) ⟨.bl _,H,I,rfl,?_⟩
  rw [show bR.toArray.any (F9 x)=bR.any (F9 x) by simp,sJ r fs]
  exact q
 ·obtain ⟨bR,r,pl,hz⟩:=I.tuple hq
  refine SeqAt.in_tupleAt (F9 x) pl (fun w hw=>pR rx fx r fs w (by simpa using hw)) ⟨.bl _,H,I,rfl,?_⟩
  rw [show bR.toArray.any (F9 x)=bR.any (F9 x) by simp,sJ r fs]
  exact q
theorem B7:ka X (compareOp .NotIn) (Wj X.K true):=by
 intro pins s σ H x y v u Q I rx ry h
 obtain ⟨p,xs,rfl,hq,fx,fs,q⟩:=h
 cases ry
 rcases hq with hq|hq
 ·obtain ⟨bR,r,pl,hz⟩:=I.list hq
  refine SeqAt.notIn_listAt (F9 x) pl.isList (fun w hw=>pR rx fx r fs w (by simpa using hw)) ⟨.bl _,H,I,rfl,?_⟩
  rw [show bR.toArray.any (F9 x)=bR.any (F9 x) by simp,sJ r fs]
  exact q
 ·obtain ⟨bR,r,pl,hz⟩:=I.tuple hq
  refine SeqAt.notIn_tupleAt (F9 x) pl (fun w hw=>pR rx fx r fs w (by simpa using hw)) ⟨.bl _,H,I,rfl,?_⟩
  rw [show bR.toArray.any (F9 x)=bR.any (F9 x) by simp,sJ r fs]
  exact q
theorem sL:sA X (.builtin "len") (fun xs H Q=>∃p ys,xs=[.ref p]∧(eS X.K H p ys∨xG X.K H p ys)∧Q (.int ys.length) H):=by
 intro pins s σ H xs us Q I r h
 obtain ⟨p,ys,rfl,hq,q⟩:=h
 obtain ⟨u,rfl,rx⟩:=vals1 r
 cases rx
 have hn:=B3
 rcases hq with hq|hq
 ·obtain ⟨bR,r',pl,hz⟩:=I.list hq
  have hlen:=r'.length
  exact Calls.call_len_list pl.isList (by simp only [aH]<;>omega) ⟨.int ys.length,H,I.tok _,⟨s.toks+1,by rw [aH,hlen]⟩,q⟩
 ·obtain ⟨bR,r',pl,hz⟩:=I.tuple hq
  have hlen:=r'.length
  exact len_tuple pl (by simp only [aH]<;>omega) ⟨.int ys.length,H,I.tok _,⟨s.toks+1,by rw [aH,hlen]⟩,q⟩
theorem ic:sA X (.type "list") (fun xs H Q=>∃p ys,xs=[.ref p]∧(eS X.K H p ys∨xG X.K H p ys)∧∀l,H l=none→Q (.ref l) (upd H l (.lst ys))):=by
 intro pins s σ H xs us Q I r h
 obtain ⟨p,ys,rfl,hq,q⟩:=h
 obtain ⟨u,rfl,rx⟩:=vals1 r
 cases rx
 have fin:∀(bR:List Value),Vals ys bR→ys.length≤sizeLine→∀(h':Heap) (c':Nat),(∀b o',s.heap.get? b=some o'→h'.get? b=some o') →
   h'.get? s.heap.objs.size=some { cls:=.type "list",dict:=none,data:=.seq bR.toArray c',slots:=#[] }→EP X pins σ Q (.ref s.heap.objs.size) { s with heap:=h' }:=fun bR r' hz h' c' kp e =>
  ⟨.ref s.heap.objs.size,_,I.laid (t':=s.toks) kp (aW _) (show i6 X.prog X.w _ h' _ (.lst ys) from ⟨hz,bR,c',r',e⟩),rfl,q _ (I.fR.fresh (aW _))⟩
 rcases hq with hq|hq
 ·obtain ⟨bR,r',pl,hz⟩:=I.list hq
  have hlen:=r'.length
  obtain ⟨o,ho,hc,n,hd⟩:=pl.isList
  exact call_list_seq p (.inl rfl) ho hc hd (fun h' c' kp e=>fin bR r' hz h' c' kp e) (by simp only [aH]<;>omega)
 ·obtain ⟨bR,r',pl,hz⟩:=I.tuple hq
  have hlen:=r'.length
  obtain ⟨o,ho,hc,n,hd⟩:=pl
  exact call_list_seq p (.inr rfl) ho hc hd (fun h' c' kp e=>fin bR r' hz h' c' kp e) (by simp only [aH]<;>omega)
def Wk (K:aa) (T:String) (x:V) (H:Hp):Prop:=match x with
 | .str _=>T = "str"
 | .int _=>T = "int"
 | .ref p=>(T = "list" ∧ ∃xs,eS K H p xs)∨(T = "tuple" ∧ ∃o,K.lookup p=some o∧o.cls=.type "tuple" ∧ o.dict=none) ∨
   (T = "dict" ∧ ((∃jH,H p=some (.dK jH))∨∃jH,H p=some (.dT jH)))∨(T = "set" ∧ ∃S n,H p=some (.set S n))
 | _=>False
theorem KJ {pins:List (Addr×Obj)} {σ:St} {H:Hp} {s:Shared} {T:String} {x:V} {v:Value} (I:Inv X pins σ H s) (r:RelV x v) (ty:Wk X.K T x H) :
  s.TypeIs v T∧∀a,v=.ref a→∃ob,s.heap.get? a=some ob∧ob.dict=none:=by
 cases x with
 | str z =>
  obtain ⟨t,rfl⟩:=r
  cases (show T = "str" from ty)
  exact ⟨typeIs_str s z t,fun _ e=>nomatch e⟩
 | int i =>
  obtain ⟨t,rfl⟩:=r
  cases (show T = "int" from ty)
  exact ⟨typeIs_int s i t,fun _ e=>nomatch e⟩
 | ref p =>
  cases r
  rcases ty with ⟨rfl,xs,hq⟩|⟨rfl,o,hk,hc,hd⟩|⟨rfl,hk⟩|⟨rfl,S,n,hk⟩
  ·obtain ⟨bR,_,pl,_⟩:=I.list hq
   refine ⟨pl.isList.typeIs,fun a e=>?_⟩
   cases e
   obtain ⟨o,n,e,c,hd,_⟩:=pl
   exact ⟨o,e,hd⟩
  ·refine ⟨⟨o,I.Ki p o hk,hc⟩,fun a e=>?_⟩
   cases e
   exact ⟨o,I.Ki _ o hk,hd⟩
  ·have z:∃o,s.heap.get? p=some o∧o.ExactDict:=by
    rcases hk with ⟨jH,hk⟩|⟨jH,hk⟩
    ·obtain ⟨_,_,_,_,o,_,_,e,ex,_⟩:=I.fR p _ hk
     exact ⟨o,e,ex⟩
    ·obtain ⟨_,_,_,_,o,_,_,e,ex,_⟩:=I.fR p _ hk
     exact ⟨o,e,ex⟩
   obtain ⟨o,e,ex⟩:=z
   refine ⟨⟨o,e,ex.1⟩,fun a e2=>?_⟩
   cases e2
   exact ⟨o,e,ex.2.1⟩
  ·obtain ⟨o,_,_,_,e,ex,_⟩:=I.fR p _ hk
   refine ⟨⟨o,e,ex.1⟩,fun a e2=>?_⟩
   cases e2
   exact ⟨o,e,ex.2.1⟩
 | _=>exact False.elim ty
def Wl (K:aa) (T:String) (r:V→List V→Hp→VK→Prop) (to:TE):TE:=fun σ H Q=>to σ H fun x H1=>Wk K T x H1∧r x [] H1 Q
def SX (K:aa) (T:String) (r:V→List V→Hp→VK→Prop) (to:TE) (t:TA):TE:=fun σ H Q=>to σ H fun x H1=>Wk K T x H1∧t σ H1 fun xs H2=>r x xs H2 Q
variable {o e:Expr} {es:List Expr} {to:TE} {t:TA} {name:Str} {apos jM:Pos} {T id:String} {r:V→List V→Hp→VK→Prop}
theorem KL (pa:PlainAttrs T) (slot:Slot T name id) (SY:typeOf (.builtin id)=pure (.type "method_descriptor")) (hm:Vf X id r) (ho:PE X o to)
  (KN:attributeBase o name X.env (eval o X.env)=eval o X.env:=by rfl) (DV:(apos.endLine == jM.line)=true:=by rfl):PE X (.Call (.Attribute o name apos) [] [] jM) (Wl X.K T r to):=by
 intro pins s σ H Q I h
 refine wpAny_Call_method0_late KN DV (gX (ho pins s σ H _ I h) fun v s1 ⟨x,H1,I1,r1,ty,q1⟩=>?_)
 obtain ⟨h1,h2⟩:=KJ I1 r1 ty
 exact ⟨T,id,pa,slot,SY,h1,h2,Calls.callWith_builtin rfl (PySem.evalArgs_none (hm pins s1 σ H1 x [] v [] Q I1 r1 .nil q1))⟩
theorem sM (pa:PlainAttrs T) (slot:Slot T name id) (SY:typeOf (.builtin id)=pure (.type "method_descriptor")) (hm:Vf X id r) (ho:PE X o to) (ha:PA X (e::es) t)
  (KN:attributeBase o name X.env (eval o X.env)=eval o X.env:=by rfl)
  (Wm:((backTo jM (starEach (e::es) X.env)).all (fun x=>!x.1)&&(backToKw jM (keywordEach [] X.env)).all (fun x=>x.1.isSome)
   && decide ((e::es).length+([]:List Keyword).length+(if ([]:List Keyword).isEmpty then 0 else 1) < 30))=true:=by rfl)
  (DV:(apos.endLine == jM.line)=true:=by rfl) (hs:starEach (e::es) X.env=(false,eval e X.env)::starEach es X.env:=by rfl) (Qm:(backTo jM (starEach es X.env)).any (·.1)=false:=by rfl) :
  PE X (.Call (.Attribute o name apos) (e::es) [] jM) (SX X.K T r to t):=by
 intro pins s σ H Q I h
 refine wpAny_Call_method_late KN Wm DV rfl (gX (ho pins s σ H _ I h) fun v s1 ⟨x,H1,I1,r1,ty,q1⟩=>?_)
 obtain ⟨h1,h2⟩:=KJ I1 r1 ty
 refine ⟨T,id,pa,slot,SY,h1,h2,?_⟩
 have hA:=ha jM pins s1 σ H1 _ I1 q1
 rw [hs] at hA ⊢
 refine Calls.callWith_builtin (by show (false||(backTo jM (starEach es X.env)).any (·.1))=false;rw [Qm]<;>rfl) (Calls.evalArgs_plain ?_)
 exact gX hA fun us s2 ⟨vs,H2,I2,r2,q2⟩=>hm pins s2 σ H2 x vs v us Q I2 r1 r2 q2
end
end L2
namespace L2
open PySem PySem.Spec PyProof.Rows
def Vg (X:Cx) (id:String) (r:V→List V→Hp→VK→Prop):Prop :=
 ∀(pins:List (Addr×Obj)) (s:Shared) (σ:St) (H:Hp) (x:V) (xs:List V) (v:Value) (us:List Value) (Q:VK),Inv X pins σ H s→RelV x v→Vals xs us→r x xs H Q →
  wpAny (model X.prog X.w) X.A (call (.builtin id) (v::us)) (EP X pins σ Q) X.xe s
theorem Vals.one:∀{x:V} {us:List Value},Vals [x] us→∃u,us=[u]∧RelV x u
 | _,_,.cons r .nil=>⟨_,rfl,r⟩
theorem Vals.zero:∀{us:List Value},Vals [] us→us=[]
 | _,.nil=>rfl
theorem Vals.dropLast {xs:List V} {us:List Value} (h:Vals xs us):Vals xs.dropLast us.dropLast:=by
 induction h with
 | nil=>exact .nil
 | cons r t ih =>
  cases t with
  | nil=>exact .nil
  | cons q t'=>exact .cons r ih
theorem Vals.eraseIdx:∀{xs:List V} {us:List Value} (i:Nat),Vals xs us→Vals (xs.eraseIdx i) (us.eraseIdx i)
 | _,_,_,.nil=>.nil
 | _,_,0,.cons _ t=>t
 | _,_,i+1,.cons r t=>.cons r (Vals.eraseIdx i t)
theorem Vals.reverse {xs:List V} {us:List Value} (h:Vals xs us):Vals xs.reverse us.reverse:=by
 induction h with
 | nil=>exact .nil
 | cons r t ih=>rw [dQ,dQ];exact Vals.append ih (.cons r .nil)
theorem Vals.rep {xs:List V} {us:List Value} (h:Vals xs us):∀k:Nat,Vals (aG k xs).flatten (aG k us).flatten
 | 0=>.nil
 | k+1=>by
  rw [cM,cM,bz,bz]
  exact Vals.append h (Vals.rep h k)
theorem F_ {α:Type} (l:List α):l.eraseIdx (l.length - 1)=l.dropLast:=by
 induction l with
 | nil=>rfl
 | cons a r ih =>
  cases r with
  | nil=>rfl
  | cons b r =>
   have e:(a::b::r).length - 1=((b::r).length - 1)+1:=by
    have h1:(a::b::r).length=r.length+2:=rfl
    have h2:(b::r).length=r.length+1:=rfl
    omega
   rw [e,List.eraseIdx_cons_succ,ih]
   all_goals rfl
theorem Be {α:Type}:∀(l:List α) (i:Nat),(l.eraseIdx i).length≤l.length
 | [],_=>aW _
 | _::_,0=>Nat.le_succ _
 | _::r,i+1=>Nat.succ_le_succ (Be r i)
theorem foldl_rep (bR:List Value):∀(k:Nat) (acc:List Value),
  M9 (fun x1 x2=>x1++x2) acc.toArray (aG k bR.toArray)=(acc++(aG k bR).flatten).toArray
 | 0,acc=>by simp
 | k+1,acc=>by
  have e:acc.toArray++bR.toArray=(acc++bR).toArray:=by simp
  have e2:(acc++bR)++(aG k bR).flatten=acc++(aG (k+1) bR).flatten:=by
   rw [cM,bz,de]
  rw [←e2,←foldl_rep bR k (acc++bR),←e,cM,b9]
section
variable {X:Cx} {pins:List (Addr×Obj)} {σ:St} {H:Hp} {s:Shared} {l b:Addr} {xs ys zs:List V}
theorem Inv.NC {bR its':List Value} {n:Nat} {f:Array Value→Array Value} {t':Nat} (I:Inv X pins σ H s) (hH:H l=some (.lst xs))
  (e:s.heap.get? l=some { cls:=.type "list",data:=.seq bR.toArray n }) (hf:f bR.toArray=its'.toArray) (hv:Vals ys its') (hz:ys.length≤sizeLine) :
  Inv X pins σ (upd H l (.lst ys)) { s with heap:=s.heap.update l (Obj.mapSeq f),toks:=t' }:=by
 have q:=PySem.IsL.update e f
 rw [hf] at q
 refine I.write (x:=l) (e:=l) (by rw [hH];exact trivial) (.inl rfl) (fun b' u hb hu=>(Heap.get?_update_other s.heap (Obj.mapSeq f) (Ne.symm hb)).trans hu) ⟨_,q⟩ ?_
 exact ⟨hz,its',_,hv,q⟩
theorem Inv.Qn {bR:List Value} {t':Nat} (I:Inv X pins σ H s) (hv:Vals ys bR) (hz:ys.length≤sizeLine) :
  Inv X pins σ (upd H s.heap.objs.size (.lst ys)) { s with heap:=s.heap.push { cls:=.type "list",data:=.seq bR.toArray },toks:=t' } :=
 I.laid (fun _ _ q=>Heap.get?_push_of_some _ q) (aW _) ⟨hz,bR,0,hv,Heap.get?_push_size _ rfl⟩
theorem Inv.fresh (I:Inv X pins σ H s):H s.heap.objs.size=none:=I.fR.fresh (aW _)
theorem Inv.DW (I:Inv X pins σ H s) (hH:H l=some (.lst xs)):xs.length≤sizeLine∧∃(bR:List Value) (n:Nat),Vals xs bR∧xs.length=bR.length∧s.heap.get? l=some { cls:=.type "list",data:=.seq bR.toArray n }:=by
 obtain ⟨z,bR,n,r,e⟩:=I.fR l _ hH
 exact ⟨z,bR,n,r,r.length,e⟩
theorem DX {n:Nat} (h:n≤sizeLine):Builtin.List.listTooLong n=false:=by
 unfold Builtin.List.listTooLong
 exact decide_eq_false (by omega)
end
section
variable {X:Cx}
def Hw:V→List V→Hp→VK→Prop:=fun x vs H Q=>∃l xs y,x=.ref l∧vs=[y]∧H l=some (.lst xs)∧xs.length < sizeLine∧Q .gg (upd H l (.lst (xs++[y])))
theorem nR:Vg X "list.append" Hw:=by
 intro pins s σ H x vs v us Q I rx rv h
 obtain ⟨l,xs,y,rfl,rfl,hH,hz,q⟩:=h
 cases rx
 obtain ⟨u,rfl,ru⟩:=rv.one
 obtain ⟨z,bR,n,r,hl,e⟩:=I.DW hH
 refine call_meets F.slot_list_append ⟨_,e,rfl⟩ F.entry_list_append (F.args_list_append_2 _ _) (PySem.list_append l bR.toArray n u (by rw [aH];omega)) ⟨e,?_⟩
 refine ⟨.gg,_,I.NC (its':=bR++[u]) hH e (by simp) (r.append (.cons ru .nil)) ?_,rfl,q⟩
 rw [ax,rO]
 omega
def Hx:V→List V→Hp→VK→Prop:=fun x vs H Q=>∃l b xs zs,x=.ref l∧vs=[.ref b]∧H l=some (.lst xs)∧H b=some (.lst zs)∧xs.length+zs.length≤sizeLine∧Q .gg (upd H l (.lst (xs++zs)))
theorem um:Vg X "list.extend" Hx:=by
 intro pins s σ H x vs v us Q I rx rv h
 obtain ⟨l,b,xs,zs,rfl,rfl,hH,hB,hz,q⟩:=h
 cases rx
 obtain ⟨u,rfl,ru⟩:=rv.one
 cases ru
 obtain ⟨z,bR,n,r,hl,e⟩:=I.DW hH
 obtain ⟨z2,xK,n2,r2,Wn,e2⟩:=I.DW hB
 have hsz:bR.toArray.size+xK.toArray.size≤sizeLine:=by rw [aH,aH];omega
 have KO:¬(!bR.toArray.isEmpty&&Builtin.List.listTooLong (bR.toArray.size+xK.toArray.size))=true:=by
  rw [DX hsz,Bool.and_false]
  exact aQ
 refine call_meets F.slot_list_extend ⟨_,e,rfl⟩ F.entry_list_extend (F.args_list_extend_2 _ _)
  (AutoSeq1.list_extend_list_list_0 l bR.toArray n b xK.toArray n2 KO (by rw [aH];omega) (by omega)) ⟨e,e2,?_⟩
 refine ⟨.gg,_,I.NC (its':=bR++xK) hH e (by simp) (r.append r2) ?_,rfl,q⟩
 rw [ax]
 omega
def Wo:V→List V→Hp→VK→Prop:=fun x vs H Q=>∃l xs y,x=.ref l∧vs=[]∧H l=some (.lst xs)∧xs[xs.length - 1]?=some y∧Q y (upd H l (.lst xs.dropLast))
theorem KP:Vg X "list.pop" Wo:=by
 intro pins s σ H x vs v us Q I rx rv h
 obtain ⟨l,xs,y,rfl,rfl,hH,hy,q⟩:=h
 cases rx
 have Vh:=rv.zero
 subst Vh
 obtain ⟨z,bR,n,r,hl,e⟩:=I.DW hH
 obtain ⟨u,hu,ru⟩:=r.get hy
 have ZF:bR.toArray[bR.toArray.size - 1]?=some u:=by
  show bR.toArray[bR.length - 1]?=some u
  rw [←Array.getElem?_toList,←hl]
  exact hu
 refine call_meets F.slot_list_pop ⟨_,e,rfl⟩ F.entry_list_pop (F.args_list_pop_1 _) (MeetsSeq.list_pop_last l bR.toArray n u ZF (by rw [aH];omega)) ⟨e,?_⟩
 refine ⟨y,_,I.NC (its':=bR.dropLast) hH e ?_ r.dropLast ?_,ru,q⟩
 ·show bR.toArray.eraseIdxIfInBounds (bR.toArray.size - 1)=bR.dropLast.toArray
  rw [aH,zK,F_]
 ·rw [List.length_dropLast]
  omega
def Qo:V→List V→Hp→VK→Prop:=fun x vs H Q=>∃l xs i k y,x=.ref l∧vs=[.int i]∧H l=some (.lst xs)∧-(2 ^ 63)≤i∧i < 2 ^ 63∧seqIndex? i xs.length=some k∧xs[k]?=some y∧Q y (upd H l (.lst (xs.eraseIdx k)))
theorem KQ:Vg X "list.pop" Qo:=by
 intro pins s σ H x vs v us Q I rx rv h
 obtain ⟨l,xs,i,k,y,rfl,rfl,hH,h1,h2,hk,hy,q⟩:=h
 cases rx
 obtain ⟨u,rfl,ru⟩:=rv.one
 obtain ⟨t,rfl⟩:=ru
 obtain ⟨z,bR,n,r,hl,e⟩:=I.DW hH
 obtain ⟨w,hw,SU⟩:=r.get hy
 refine call_meets F.slot_list_pop ⟨_,e,rfl⟩ F.entry_list_pop (F.args_list_pop_2 _ _)
  (MeetsSeq.list_pop_at l bR.toArray n i t k w (fitsIndex_both h1 h2) (by rw [aH,←hl];exact hk) (by rw [←Array.getElem?_toList];exact hw) (by rw [aH];omega)) ⟨e,?_⟩
 refine ⟨y,_,I.NC (its':=bR.eraseIdx k) hH e ?_ (r.eraseIdx k) ?_,SU,q⟩
 ·show bR.toArray.eraseIdxIfInBounds k=(bR.eraseIdx k).toArray
  rw [zK]
 ·have:=Be xs k
  omega
def Wq:R2:=fun x y H Q=>∃l b xs zs,x=.ref l∧y=.ref b∧H l=some (.lst xs)∧H b=some (.lst zs)∧xs.length+zs.length≤sizeLine∧∀p,H p=none→Q (.ref p) (upd H p (.lst (xs++zs)))
theorem B8:ka X (binaryOp .Add) Wq:=by
 intro pins s σ H x y v u Q I rx ry h
 obtain ⟨l,b,xs,zs,rfl,rfl,hH,hB,hz,q⟩:=h
 cases rx
 cases ry
 obtain ⟨z,bR,n,r,hl,e⟩:=I.DW hH
 obtain ⟨z2,xK,n2,r2,Wn,e2⟩:=I.DW hB
 refine PySem.P.add_list e e2 ?_ (by rw [aH,aH];omega)
 have ea:bR.toArray++xK.toArray=(bR++xK).toArray:=by simp
 rw [ea]
 exact ⟨.ref _,_,I.Qn (t':=s.toks) (r.append r2) (by rw [ax];omega),rfl,q _ I.fresh⟩
def Wr:R2:=fun x y H Q=>∃l k xs,x=.ref l∧y=.int k∧H l=some (.lst xs)∧-(2 ^ 63)≤k∧k < 2 ^ 63∧xs.length*k.toNat≤sizeLine ∧
 ∀p,H p=none→Q (.ref p) (upd H p (.lst (aG k.toNat xs).flatten))
theorem len_rep {α:Type} (xs:List α) (k:Nat):(aG k xs).flatten.length=k*xs.length:=by
 induction k with
 | zero=>simp
 | succ k ih=>rw [cM,bz,ax,ih,Nat.succ_mul,rE]
theorem Ga:ka X (binaryOp .Mult) Wr:=by
 intro pins s σ H x y v u Q I rx ry h
 obtain ⟨l,k,xs,rfl,rfl,hH,h1,h2,hz,q⟩:=h
 cases rx
 obtain ⟨t,rfl⟩:=ry
 obtain ⟨z,bR,n,r,hl,e⟩:=I.DW hH
 have hlen:bR.toArray.size*k.toNat≤sizeLine:=by rw [aH,←hl];exact hz
 have Ws:¬bR.toArray.size*k.toNat > (2 ^ 63 - 1) / 8:=by
  have:(sizeLine:Nat)≤(2 ^ 63 - 1) / 8:=by decide
  omega
 have Wt:¬(!Builtin.List.listFitsIndex k)=true:=by
  rw [fitsIndex_both h1 h2]
  exact aQ
 have KO:¬Builtin.List.listTooLong (bR.toArray.size*k.toNat)=true:=by
  rw [DX hlen]
  exact aQ
 have Wu:M9 (fun x1 x2=>x1++x2) #[] (aG (if bR.toArray.isEmpty=true then 0 else k.toNat) bR.toArray)=(aG k.toNat bR).flatten.toArray:=by
  have f0:∀m:Nat,M9 (fun x1 x2=>x1++x2) #[] (aG m bR.toArray)=(aG m bR).flatten.toArray:=fun m=>by
   have:=foldl_rep bR m []
   rw [eZ] at this
   exact this
  rw [f0]
  cases bR with
  | nil=>simp
  | cons a r'=>rw [if_neg (by simp)]
 refine wpAny_binaryOp_repeat_ref (T := "list") (U := "int") (by decide) ⟨_,e,rfl⟩ (fun s'=>typeIs_int s' k t) noFill_list_mul F.fills_int_mul F.slot_int_rmul repeat_list F.slot_int_index.lookup
  (call_meets F.slot_int_rmul (typeIs_int s k t) F.entry_int_rmul (F.args_int_rmul_2 _ _) (int___rmul___int_list k t l bR.toArray n)
   ⟨e,rfl,⟨_,e,rfl⟩,call_meets F.slot_list_mul ⟨_,e,rfl⟩ F.entry_list_mul (F.args_list_mul_2 _ _) (AutoListH.list___mul___list_int_3 l bR.toArray n k t Wt Ws KO) ⟨e,?_⟩⟩)
 rw [Wu]
 exact ⟨.ref _,_,I.Qn (t':=s.toks) (r.rep k.toNat) (by rw [len_rep,eM];exact hz),rfl,q _ I.fresh⟩
end
section
variable {prog:Program} {w:World} {A:Around} {E:Value→Shared→Prop} {s:Shared}
end
section
variable {X:Cx}
end
end L2
namespace L2
open PySem PySem.Spec PyProof.Rows
theorem Vals.ints:∀{ns:List Int} {us:List Value},Vals (ns.map V.int) us→IntsAre us ns
 | [],us,h=>by
  rw [xC] at h
  cases h
  exact IntsAre.nil
 | n::ns,us,h=>by
  rw [aN] at h
  cases h with
  | cons r t =>
   obtain ⟨k,rfl⟩:=r
   exact IntsAre.cons n k (Vals.ints t)
theorem Vals.Wv:∀{bs:List Bool} {us:List Value},Vals (bs.map V.bl) us→us=bs.map Value.bool
 | [],us,h=>by
  rw [xC] at h
  cases h
  rfl
 | b::bs,us,h=>by
  rw [aN] at h
  cases h with
  | cons r t =>
   cases r
   rw [Vals.Wv t,aN]
theorem Vals.Qp {a:Addr} {us:List Value} (r:Vals [V.ref a] us):us=[Value.ref a]:=by
 cases r with
 | cons r t =>
  cases t
  cases r
  rfl
section
variable {prog:Program} {w:World} {A:Around} {E:Value→Shared→Prop} {s:Shared} {l:Addr} {bR:List Value} {ns:List Int} {Q:Value→Shared→Prop}
theorem ND (hh:A.handled=none) (hl:s.heap.IsList l bR.toArray) (hi:IntsAre bR ns)
  (h:∀h' tk t',(∀b o,s.heap.get? b=some o→h'.get? b=some o)→Q (.int ns.sum t') { s with heap:=h',toks:=tk }):wpAny (model prog w) A (call (.builtin "sum") [.ref l]) Q E s:=by
 obtain ⟨xs,e⟩:=hi.allInts.items
 have hn:numsOf (intItems xs).toList=ns:=by rw [←e];exact hi.numsOf
 rw [nums_intItems] at hn
 rw [e] at hl
 refine PySem.sum_intListG hh hl fun h' tk t' hk=>?_
 have:=h h' tk t' hk
 rw [preSum_eq,dR (by simp),hn];exact this
end
section
variable {X:Cx}
def Ww (K:aa):List V→Hp→VK→Prop:=fun vs H Q=>∃(a:Addr) (ns:List Int),vs=[V.ref a]∧eS K H a (ns.map V.int)∧Q (.int ns.sum) H
theorem Qq (hc:X.calm=true):sA X (.builtin "sum") (Ww X.K):=by
 intro pins s σ H vs us Q I r h
 obtain ⟨a,ns,rfl,hs,q⟩:=h
 obtain ⟨bR,rv,hl,_⟩:=I.list hs
 rw [Vals.Qp r]
 exact ND (I.ok.hd hc) hl.isList rv.ints fun h' tk t' hk=>⟨.int _,H,I.kept hk,⟨_,rfl⟩,q⟩
end
section
variable {X:Cx}
end
section
variable {X:Cx}
end
theorem DY {prog:Program} {w:World} {A:Around} {E:Value→Shared→Prop} {s:Shared} {l:Addr} {items:Array Value} {Q:Value→Shared→Prop} (hl:s.heap.IsList l items)
  (h:∀pN:Shared,pN={ s with heap:=s.heap.push { cls:=.type "list_iterator",data:=.fields #[.ref l,.int 0 0] } } →
   (pN.heap.IsListIter s.heap.objs.size l 0∧pN.heap.IsList l items)→l≠s.heap.objs.size→Q (.ref s.heap.objs.size) pN):wpAny (model prog w) A (pyIter (.ref l)) Q E s:=by
 have DO:l < s.heap.objs.size:=by obtain ⟨_,e,_⟩:=hl;exact Heap.lt_size e
 exact wpAny_pyIter_list hl (h _ rfl ⟨⟨_,Heap.get?_push_size _ rfl,rfl,rfl⟩,hl.push _⟩ (cF DO))
theorem vn {prog:Program} {w:World} {A:Around} {bs:List Bool} {bR:List Value} (e:bR=bs.map Value.bool) :
  TruthOf prog w A (fun i v=>bR.toArray[i]?=some v) (fun i=>bs.getD i false):=fun i v s Q E hv hq=>by
 have Ve:bR[i]?=some v:=by simpa using hv
 rw [e,b8] at Ve
 obtain ⟨b,hb,rfl⟩:=Option.map_eq_some_iff.mp Ve
 have hg:bs.getD i false=b:=by rw [aj,hb]<;>rfl
 have OT:Q (bs.getD i false) s:=hq
 rw [hg] at OT
 exact wpAny_truthy_bool OT
theorem any_range:∀bs:List Bool,(aq bs.length).any (fun i=>bs.getD i false)=bs.any id
 | []=>rfl
 | b::bs=>by
  rw [ay,gU,lS,IT,lS,←any_range bs]
  all_goals rfl
theorem all_range:∀bs:List Bool,(aq bs.length).all (fun i=>bs.getD i false)=bs.all id
 | []=>rfl
 | b::bs=>by
  rw [ay,gU,dk,xD,dk,←all_range bs]
  all_goals rfl
section
variable {X:Cx}
def Wx (K:aa):List V→Hp→VK→Prop:=fun vs H Q=>∃(a:Addr) (bs:List Bool),vs=[V.ref a]∧eS K H a (bs.map V.bl)∧Q (.bl (bs.any id)) H
def Wz (K:aa):List V→Hp→VK→Prop:=fun vs H Q=>∃(a:Addr) (bs:List Bool),vs=[V.ref a]∧eS K H a (bs.map V.bl)∧Q (.bl (bs.all id)) H
theorem Qr (hc:X.calm=true):sA X (.builtin "any") (Wx X.K):=by
 intro pins s σ H vs us Q I r h
 obtain ⟨a,bs,rfl,hs,q⟩:=h
 obtain ⟨bR,rv,hl,_⟩:=I.list hs
 rw [Vals.Qp r]
 have hb:=rv.Wv
 refine call_any_walk (DY hl.isList fun pN e2 st kI=>?_)
 subst e2
 refine ⟨_,_,_,_,_,_,_,rfl,Walks.list (A:=X.A.in1) (I.ok.hd hc) _ a kI bR.toArray,st,vn hb,fun h' tk hk=>?_⟩
 refine ⟨.bl _,H,I.kept fun b o eo=>hk b o (fun xM=>?_) (Heap.get?_push_of_some _ eo),?_,q⟩
 ·rcases aF.mp xM with e1|xM
  ·exact absurd (e1▸Heap.lt_size eo) (eK _)
  ·cases xM
 ·show Value.bool _=Value.bool _
  rw [←any_range,hb,aH,af]
theorem Qs (hc:X.calm=true):sA X (.builtin "all") (Wz X.K):=by
 intro pins s σ H vs us Q I r h
 obtain ⟨a,bs,rfl,hs,q⟩:=h
 obtain ⟨bR,rv,hl,_⟩:=I.list hs
 rw [Vals.Qp r]
 have hb:=rv.Wv
 refine call_all_walk (DY hl.isList fun pN e2 st kI=>?_)
 subst e2
 refine ⟨_,_,_,_,_,_,_,rfl,Walks.list (A:=X.A.in1) (I.ok.hd hc) _ a kI bR.toArray,st,vn hb,fun h' tk hk=>?_⟩
 refine ⟨.bl _,H,I.kept fun b o eo=>hk b o (fun xM=>?_) (Heap.get?_push_of_some _ eo),?_,q⟩
 ·rcases aF.mp xM with e1|xM
  ·exact absurd (e1▸Heap.lt_size eo) (eK _)
  ·cases xM
 ·show Value.bool _=Value.bool _
  rw [←all_range,hb,aH,af]
end
mutual
inductive Dp (K:aa) (H:Hp):V→PyData→Prop
 | gg:Dp K H .gg .none
 | bl (b:Bool):Dp K H (.bl b) (.bool b)
 | int (i:Int):Dp K H (.int i) (.int i)
 | str (x:Str):Dp K H (.str x) (.str x)
 | lst {a:Addr} {xs:List V} {ds:List PyData}:eS K H a xs→xN K H xs ds→Dp K H (.ref a) (.list ds)
 | tup {a:Addr} {xs:List V} {ds:List PyData}:xG K H a xs→xN K H xs ds→Dp K H (.ref a) (.tuple ds)
inductive xN (K:aa) (H:Hp):List V→List PyData→Prop
 | nil:xN K H [] []
 | cons {v:V} {vs:List V} {d:PyData} {ds:List PyData}:Dp K H v d→xN K H vs ds→xN K H (v::vs) (d::ds)
end
section
variable {X:Cx} {pins:List (Addr×Obj)} {σ:St} {H:Hp} {s:Shared}
mutual
theorem Dp.reads (I:Inv X pins σ H s):∀(d:PyData) (v:V) (u:Value),Dp X.K H v d→RelV v u→∃as,Reads s.heap u d as
 | .none,_,_,h,r=>by
  cases h
  cases r
  exact ⟨_,Reads.none⟩
 | .bool b,_,_,h,r=>by
  cases h
  cases r
  exact ⟨_,Reads.bool b⟩
 | .int i,_,_,h,r=>by
  cases h
  obtain ⟨t,rfl⟩:=r
  exact ⟨_,Reads.int i t⟩
 | .str x,_,_,h,r=>by
  cases h
  obtain ⟨t,rfl⟩:=r
  exact ⟨_,Reads.str x t⟩
 | .list ds,_,_,h,r=>by
  cases h with
  | lst hs ha =>
   cases r
   obtain ⟨bR,rv,⟨o,n,ho,hc,_,hd⟩,_⟩:=I.list hs
   obtain ⟨as,hr⟩:=Dp.readsAll I ds _ bR ha rv
   exact ⟨_,Reads.list ho hc hd hr⟩
 | .tuple ds,_,_,h,r=>by
  cases h with
  | tup hs ha =>
   cases r
   obtain ⟨bR,rv,⟨o,ho,hc,n,hd⟩,_⟩:=I.tuple hs
   obtain ⟨as,hr⟩:=Dp.readsAll I ds _ bR ha rv
   exact ⟨_,Reads.tuple ho hc hd hr⟩
 | .dict _,_,_,h,_=>by cases h
theorem Dp.readsAll (I:Inv X pins σ H s):∀(ds:List PyData) (vs:List V) (us:List Value),xN X.K H vs ds→Vals vs us→∃as,ReadsAll s.heap us ds as
 | [],_,_,h,r=>by
  cases h
  cases r
  exact ⟨_,ReadsAll.nil⟩
 | d::ds,_,_,h,r=>by
  cases h with
  | cons h1 h2 =>
   cases r with
   | cons r1 r2 =>
    obtain ⟨as,q1⟩:=Dp.reads I d _ _ h1 r1
    obtain ⟨bs,q2⟩:=Dp.readsAll I ds _ _ h2 r2
    exact ⟨_,ReadsAll.cons q1 q2⟩
end
end
section
variable {X:Cx}
def WA (K:aa):R2:=fun x y H Q=>∃d e,Dp K H x d∧Dp K H y e∧SeqAt.shaped d=true∧SeqAt.shaped e=true∧Q (.bl (PyData.eqv d e)) H
def WB (K:aa):R2:=fun x y H Q=>∃d e,Dp K H x d∧Dp K H y e∧SeqAt.shaped d=true∧SeqAt.shaped e=true∧Q (.bl (!PyData.eqv d e)) H
theorem Qt (hu:X.A.units+64 < cLine):ka X (compareOp .Eq) (WA X.K):=by
 intro pins s σ H x y v u Q I rx ry h
 obtain ⟨d,e,hd,he,sd,se,q⟩:=h
 obtain ⟨as,r1⟩:=Dp.reads I d x v hd rx
 obtain ⟨bs,r2⟩:=Dp.reads I e y u he ry
 exact SeqAt.compareEq_shaped r1 r2 sd se hu ⟨.bl _,H,I,rfl,q⟩
theorem Qu (hu:X.A.units+64 < cLine):ka X (compareOp .NotEq) (WB X.K):=by
 intro pins s σ H x y v u Q I rx ry h
 obtain ⟨d,e,hd,he,sd,se,q⟩:=h
 obtain ⟨as,r1⟩:=Dp.reads I d x v hd rx
 obtain ⟨bs,r2⟩:=Dp.reads I e y u he ry
 exact SeqAt.compareNe_shaped r1 r2 sd se hu ⟨.bl _,H,I,rfl,q⟩
end
end L2
namespace L2
open PySem PySem.Spec PyProof.Rows
abbrev KR (h:Heap) (c:Addr) (v:Option Value):Prop:=h.IsCell c v
def Qv (scope sc:Scope):Scope :=
 { scope with names:=scope.names.map fun (n,k)=>if (k == .free&&sc.kind == .function&&sc.names.lookup n == some .cell) then (n,.cell) else (n,k) }
def dY (cells:List (Str×Addr)):List (Str×NameKind)→List (Str×Addr)→List (Str×Addr)
 | [],acc=>acc
 | (n,k)::r,acc=>if k == .free then dY cells r ((n,(cells.lookup n).getD 0)::acc) else dY cells r acc
theorem sN (env:Env) (f:Str×NameKind→List (Str×Addr)→Sem (ForInStep (List (Str×Addr))))
  (hf:∀n k c,f (n,k) c=if k == .free then (do let a ←cellOf env n;pure (.yield ((n,a)::c))) else pure (.yield c)) :
  ∀(names:List (Str×NameKind)) (acc:List (Str×Addr)),(∀y∈names,y.2=.free→∃c,env.cells.lookup y.1=some c)→forIn names acc f=pure (dY env.cells names acc)
 | [],acc,_=>by rw [List.forIn_nil];rfl
 | (n,k)::r,acc,h=>by
  rw [List.forIn_cons,hf]
  have ih:=fun acc=>sN env f hf r acc fun y hy=>h y (bq _ hy)
  unfold dY
  by_cases hk:(k == NameKind.free)=true
  ·rw [if_pos hk,if_pos hk]
   obtain ⟨c,hc⟩:=h (n,k) cj (by simpa using hk)
   have e:cellOf env n=pure c:=by unfold cellOf;rw [hc]
   rw [e]
   have e2:(env.cells.lookup n).getD 0=c:=by rw [hc];rfl
   rw [e2]
   exact ih _
  ·rw [if_neg hk,if_neg hk]
   exact ih _
theorem Gb {scope:Scope} {env:Env} (h:∀y∈scope.names,y.2=.free→∃c,env.cells.lookup y.1=some c):closureFor scope env=pure (dY env.cells scope.names []):=by
 simp only [closureFor]
 rw [sN env _ (fun n k c=>rfl) scope.names [] h]
 rfl
theorem mem_lookup {α:Type}:∀{l:List (Str×α)} {n:Str} {c:α},(n,c)∈l→∃c',l.lookup n=some c'
 | (k,v)::r,n,c,h=>by
  rw [cQ]
  cases hb:n == k with
  | true=>exact ⟨_,rfl⟩
  | false =>
   rcases aF.mp h with e|h
   ·cases e;simp at hb
   ·exact mem_lookup h
theorem my {cells:List (Str×Addr)}:∀{names:List (Str×NameKind)} {acc:List (Str×Addr)} {n:Str} {c:Addr},(n,c)∈dY cells names acc→(n,c)∈acc∨((n,.free)∈names∧c=(cells.lookup n).getD 0)
 | [],_,_,_,h=>.inl h
 | (m,k)::r,acc,n,c,h=>by
  unfold dY at h
  split at h
  ·rename_i hk
   have hk:k=.free:=by simpa using hk
   rcases my h with h|⟨h1,h2⟩
   ·rcases aF.mp h with e|h
    ·cases e;exact .inr ⟨hk▸cj,rfl⟩
    ·exact .inl h
   ·exact .inr ⟨bq _ h1,h2⟩
  ·rcases my h with h|⟨h1,h2⟩
   ·exact .inl h
   ·exact .inr ⟨bq _ h1,h2⟩
theorem pS {cells:List (Str×Addr)}:∀{names:List (Str×NameKind)} {acc:List (Str×Addr)} {p:Str×Addr},p∈acc→p∈dY cells names acc
 | [],_,_,h=>h
 | (m,k)::r,acc,p,h=>by
  unfold dY
  split
  ·exact pS (bq _ h)
  ·exact pS h
theorem pT {cells:List (Str×Addr)}:∀{names:List (Str×NameKind)} {acc:List (Str×Addr)} {n:Str},(n,.free)∈names→(n,(cells.lookup n).getD 0)∈dY cells names acc
 | (m,k)::r,acc,n,h=>by
  unfold dY
  rcases aF.mp h with e|h
  ·cases e
   exact pS cj
  ·split
   ·exact pT h
   ·exact pT h
theorem nS:∀{names:List (Str×NameKind)} {h:Heap} {acc:List (Str×Addr)} {x:Str} {c:Addr},(x,c)∈cellsFrom h.objs.size names acc →
  (x,c)∈acc∨((x,.cell)∈names∧h.objs.size≤c∧KR (pushCells h names) c none)
 | [],_,_,_,_,h=>.inl h
 | (n,k)::r,h,acc,x,c,hm=>by
  unfold cellsFrom at hm
  unfold pushCells
  split at hm
  ·rename_i hk
   rw [if_pos hk]
   have hk:k=.cell:=by simpa using hk
   rw [←Heap.size_push h { cls:=.type "cell",data:=.cell none }] at hm
   rcases nS hm with hm|⟨h1,h2,h3⟩
   ·rcases aF.mp hm with e|hm
    ·cases e
     exact .inr ⟨hk▸cj,aW _,_,pushCells_keeps r _ _ _ (Heap.get?_push_size _ rfl),rfl⟩
    ·exact .inl hm
   ·rw [Heap.size_push] at h2
    exact .inr ⟨bq _ h1,px h2,h3⟩
  ·rename_i hk
   rw [if_neg hk]
   rcases nS hm with hm|⟨h1,h2,h3⟩
   ·exact .inl hm
   ·exact .inr ⟨bq _ h1,h2,h3⟩
theorem qD:∀{names:List (Str×NameKind)} {n:Nat} {acc:List (Str×Addr)} {p:Str×Addr},p∈acc→p∈cellsFrom n names acc
 | [],_,_,_,h=>h
 | (m,k)::r,n,acc,p,h=>by
  unfold cellsFrom
  split
  ·exact qD (bq _ h)
  ·exact qD h
theorem uo:∀{names:List (Str×NameKind)} {n:Nat} {acc:List (Str×Addr)} {x:Str},(x,.cell)∈names→∃c,(x,c)∈cellsFrom n names acc
 | (m,k)::r,n,acc,x,h=>by
  unfold cellsFrom
  rcases aF.mp h with e|h
  ·cases e
   exact ⟨n,qD cj⟩
  ·split
   ·exact uo h
   ·exact uo h
theorem uq:∀{names:List (Str×NameKind)} {h:Heap} {acc:List (Str×Addr)} {x y:Str} {c:Addr},(∀p∈acc,p.2 < h.objs.size)→(∀x y c,(x,c)∈acc→(y,c)∈acc→x=y) →
  (x,c)∈cellsFrom h.objs.size names acc→(y,c)∈cellsFrom h.objs.size names acc→x=y
 | [],_,_,_,_,_,_,hi,h1,h2=>hi _ _ _ h1 h2
 | (n,k)::r,h,acc,x,y,c,hl,hi,h1,h2=>by
  unfold cellsFrom at h1 h2
  split at h1
  ·rename_i hk
   rw [if_pos hk] at h2
   rw [←Heap.size_push h { cls:=.type "cell",data:=.cell none }] at h1 h2
   refine uq (h:=h.push _) (fun p hp=>?_) (fun x y c a b=>?_) h1 h2
   ·rw [Heap.size_push]
    rcases aF.mp hp with rfl|hp
    ·exact qB _
    ·exact zL (hl p hp)
   ·rcases aF.mp a with e|a<;>rcases aF.mp b with e'|b
    ·cases e;cases e';rfl
    ·cases e;exact absurd (hl _ b) (eK _)
    ·cases e';exact absurd (hl _ a) (eK _)
    ·exact hi _ _ _ a b
  ·rename_i hk
   rw [if_neg hk] at h2
   exact uq hl hi h1 h2
theorem DZ {M:Model} {A:Around} {E:Value→Shared→Prop} {s:Shared} {scope:Scope} {globals:Addr} {closure:List (Str×Addr)} {qual:Str} {func:Option Addr} {code:Value} {around:Env} {builtins:Addr} {Q:Env→Shared→Prop}
  (h:Q (newEnv scope s.heap.objs.size globals (cellsFrom (s.heap.objs.size+1) scope.names closure) qual func code (some around) builtins)
   { s with heap:=pushCells (s.heap.push { cls:=.type "dict",data:=.dict #[] }) scope.names }) :
  wpAny M A (newFunctionEnv scope globals closure [] qual func code (some around) builtins) Q E s:=by
 simp only [newFunctionEnv,Option.isSome_some,if_true]
 refine wpAny_bind (wpAny_alloc ?_)
 refine wpAny_bind (wpAny_layCells _ (fun n k c=>rfl) scope.names closure _ _ ?_)
 rw [show ({ s with heap:=s.heap.push { cls:=.type "dict",data:=.dict #[] } }:Shared).heap.objs.size=s.heap.objs.size+1 from Heap.size_push ..]
 rw [List.forIn_nil]
 exact wpAny_bind (wpAny_pure (wpAny_pure h))
theorem pU {sc:Scope}:∀{names:List (Str×NameKind)} {x:Str} {k:NameKind},
  (names.map fun (n,k)=>if (k == NameKind.free&&sc.kind == .function&&sc.names.lookup n == some .cell) then (n,NameKind.cell) else (n,k)).lookup x=some k →
  ∃k',names.lookup x=some k'∧(k=k'∨(k'=.free∧k=.cell))
 | [],_,_,h=>by simp at h
 | (n,zW)::r,x,k,h=>by
  have ih:=@pU sc r x k
  have h':iI x ((if (zW == NameKind.free&&sc.kind == .function&&sc.names.lookup n == some .cell)=true then (n,NameKind.cell) else (n,zW))::(r.map _))=some k:=h
  cases hx:x == n with
  | true =>
   simp only [cQ,hx]
   by_cases hc:(zW == NameKind.free&&sc.kind == .function&&sc.names.lookup n == some .cell)=true
   ·rw [if_pos hc] at h'
    simp only [cQ,hx] at h'
    cases h'
    simp only [ag,beq_iff_eq] at hc
    exact ⟨zW,rfl,.inr ⟨hc.1.1,rfl⟩⟩
   ·rw [if_neg hc] at h'
    simp only [cQ,hx] at h'
    cases h'
    exact ⟨_,rfl,.inl rfl⟩
  | false =>
   simp only [cQ,hx]
   by_cases hc:(zW == NameKind.free&&sc.kind == .function&&sc.names.lookup n == some .cell)=true
   ·rw [if_pos hc] at h'
    simp only [cQ,hx] at h'
    exact ih h'
   ·rw [if_neg hc] at h'
    simp only [cQ,hx] at h'
    exact ih h'
theorem jN {sc:Scope}:∀{names:List (Str×NameKind)} {x:Str} {k:NameKind},k≠.free→names.lookup x=some k →
  (names.map fun (n,k)=>if (k == NameKind.free&&sc.kind == .function&&sc.names.lookup n == some .cell) then (n,NameKind.cell) else (n,k)).lookup x=some k
 | [],_,_,_,h=>by simp at h
 | (n,zW)::r,x,k,hk,h=>by
  have ih:=@jN sc r x k hk
  show iI x ((if (zW == NameKind.free&&sc.kind == .function&&sc.names.lookup n == some .cell)=true then (n,NameKind.cell) else (n,zW))::(r.map _))=some k
  cases hx:x == n with
  | true =>
   simp only [cQ,hx] at h
   cases h
   have:¬(zW == NameKind.free&&sc.kind == .function&&sc.names.lookup n == some .cell)=true:=by simp [hk]
   rw [if_neg this]
   simp only [cQ,hx]
  | false =>
   simp only [cQ,hx] at h
   by_cases hc:(zW == NameKind.free&&sc.kind == .function&&sc.names.lookup n == some .cell)=true
   ·rw [if_pos hc];simp only [cQ,hx];exact ih h
   ·rw [if_neg hc];simp only [cQ,hx];exact ih h
structure D1 (N:List Str) (sc scope:Scope) (own:List (Str×Nat)):Prop where
 kind:scope.kind=.function
 uniq:∀y∈scope.names,scope.names.lookup y.1=some y.2
 ix:∀p∈own,N[p.2]?=some p.1
 free:∀y∈scope.names,y.2=.free→sc.names.lookup y.1=some .cell∨sc.names.lookup y.1=some .free
 own:∀y∈scope.names,y.2=.local∨y.2=.cell→y.1∈own.map (·.1)∨y.1 ∉ N
def wipe (σ:St):List Nat→St
 | []=>σ
 | v::vs=>(wipe σ vs).set v none
theorem g0 (σ:St):∀vs:List Nat,(wipe σ vs).length=σ.length
 | []=>rfl
 | v::vs=>by unfold wipe;rw [cO,g0 σ vs]
theorem ur {σ:St} {i:Nat} {x:V}:∀{vs:List Nat},(wipe σ vs)[i]?=some (some x)→σ[i]?=some (some x)∧i ∉ vs
 | [],h=>⟨h,by simp⟩
 | v::vs,h=>by
  unfold wipe at h
  by_cases hi:v=i
  ·subst hi
   by_cases hv:v < (wipe σ vs).length
   ·rw [b6 hv] at h;cases h
   ·rw [bY (by simpa using hv)] at h;cases h
  ·rw [bg hi] at h
   obtain ⟨h1,h2⟩:=ur h
   exact ⟨h1,by simp only [aF,not_or];exact ⟨fun e=>hi e.symm,h2⟩⟩
abbrev Cx.ra (X:Cx) (s:Shared) (H:Hp) (scope:Scope) (jd:Env) (fp:List Addr):Cx:={ X with A9:=s,R_:=H,env:=jd,outer:=X.stack,ex:=fp,fn:=fun x=>scope.names.lookup x == some .cell,pn:=[],xe:=fun _ _=>False }
section
variable {X:Cx} {pins:List (Addr×Obj)} {σ:St} {H:Hp} {s:Shared}
theorem D2 {scope:Scope} {own:List (Str×Nat)} {fp:List Addr} (I:Inv X pins σ H s) (ok:D1 X.N X.env.scope scope own) (hN:X.N.Nodup) (RT:∀b∈fp,ug X pins H b∧b < s.heap.objs.size) :
  Inv (X.ra s H scope (compEnvC scope (cellsFrom (s.heap.objs.size+1) scope.names (dY X.env.cells scope.names [])) s.heap.objs.size X.env) fp) [] (wipe σ (own.map (·.2))) H { s with heap:=pushCells (s.heap.push { cls:=.type "dict",data:=.dict #[] }) scope.names }:=by
 have vm:∀y∈scope.names,y.2=.free→∃c,X.env.cells.lookup y.1=some c:=fun y hy e=>by
  rcases ok.free y hy e with k|k
  ·exact I.ok.has _ (.inl k)
  ·exact I.ok.has _ (.inr k)
 generalize D3:compEnvC scope (cellsFrom (s.heap.objs.size+1) scope.names (dY X.env.cells scope.names [])) s.heap.objs.size X.env=jd
 have kp:∀b o,s.heap.get? b=some o→(pushCells (s.heap.push { cls:=.type "dict",data:=.dict #[] }) scope.names).get? b=some o:=fun b o e=>pushCells_keeps _ _ _ _ (Heap.get?_push_of_some _ e)
 have hL:jd.locals=s.heap.objs.size:=by rw [←D3];rfl
 have NF:jd.cells=cellsFrom (s.heap.objs.size+1) scope.names (dY X.env.cells scope.names []):=by rw [←D3];rfl
 have WC:jd.scope=Qv scope X.env.scope:=by rw [←D3];rfl
 rw [←Heap.size_push s.heap { cls:=.type "dict",data:=.dict #[] }] at NF
 have cm:∀{y c},(y,c)∈dY X.env.cells scope.names []→X.env.cells.lookup y=some c∧c < s.heap.objs.size:=fun {y c} hm=>by
  rcases my hm with hm|⟨h1,rfl⟩
  ·cases hm
  ·obtain ⟨c,hc⟩:=vm _ h1 rfl
   rw [hc]
   obtain ⟨w,z⟩:=I.cell _ _ hc
   exact ⟨rfl,z.lt⟩
 have mem:∀{y c},jd.cells.lookup y=some c→(X.env.cells.lookup y=some c∧c < s.heap.objs.size)∨(s.heap.objs.size+1≤c∧KR (pushCells (s.heap.push { cls:=.type "dict",data:=.dict #[] }) scope.names) c none):=fun {y c} e=>by
  rw [NF] at e
  rcases nS (PySem.mem_of_lookup e) with hm|⟨_,h2,h3⟩
  ·exact .inl (cm hm)
  ·rw [Heap.size_push] at h2;exact .inr ⟨h2,h3⟩
 have look:∀{y},scope.names.lookup y=some .free→∃c,jd.cells.lookup y=some c∧X.env.cells.lookup y=some c:=fun {y} hl=>by
  have hy:(y,NameKind.free)∈scope.names:=PySem.mem_of_lookup hl
  obtain ⟨c',e'⟩:=mem_lookup (qD (names:=scope.names) (n:=(s.heap.push { cls:=.type "dict",data:=.dict #[] }).objs.size) (pT (cells:=X.env.cells) (acc:=[]) hy))
  rw [←NF] at e'
  refine ⟨c',e',?_⟩
  rw [NF] at e'
  rcases nS (PySem.mem_of_lookup e') with hm|⟨h1,_,_⟩
  ·exact (cm hm).1
  ·have:=ok.uniq _ h1
   rw [hl] at this;cases this
 have DC:(X.ra s H scope jd fp).Ok:=by
  refine ⟨I.ok.mod,by show jd.scope.kind=_;rw [WC];exact ok.kind,by show jd.globals=_;rw [←D3];exact I.ok.glob,by show jd.builtins=_;rw [←D3];exact I.ok.blt,by show s.heap.objs.size≤jd.locals;rw [hL];exact aW _,
   fun y z c e1 e2=>?_,fun y hy=>?_,fun y c z e=>?_,I.ok.hd,I.ok.frames,.inl rfl,fun b hb=>⟨?_,fun y c e z=>?_⟩,I.bs,aO I.ok.Kf I.sz,fun b o e hb=>?_,fun b hb z=>?_,I.stack,I.Hf⟩
  ·have e1:jd.cells.lookup y=some c:=e1
   have e2:jd.cells.lookup z=some c:=e2
   rw [NF] at e1 e2
   refine uq (fun p hp=>?_) (fun y z c a b=>I.ok.inj y z c (cm a).1 (cm b).1) (PySem.mem_of_lookup e1) (PySem.mem_of_lookup e2)
   rw [Heap.size_push]
   exact zL (cm (y:=p.1) (c:=p.2) hp).2
  ·show ∃c,jd.cells.lookup y=some c
   have key:∀k,jd.kindOf y=some k→(k=.cell∨k=.free)→∃c,jd.cells.lookup y=some c:=fun k hk WD=>by
    unfold Env.kindOf at hk
    rw [WC] at hk
    obtain ⟨k',e,r⟩:=pU hk
    have:k'=.cell∨k'=.free:=by
     rcases r with rfl|⟨rfl,_⟩
     ·exact WD
     ·exact .inr rfl
    rcases this with rfl|rfl
    ·obtain ⟨c,hm⟩:=uo (n:=(s.heap.push { cls:=.type "dict",data:=.dict #[] }).objs.size) (acc:=dY X.env.cells scope.names []) (PySem.mem_of_lookup e)
     obtain ⟨c',e'⟩:=mem_lookup hm
     exact ⟨c',by rw [NF];exact e'⟩
    ·obtain ⟨c,h1,_⟩:=look e
     exact ⟨c,h1⟩
   rcases hy with hy|hy
   ·exact key _ hy (.inl rfl)
   ·exact key _ hy (.inr rfl)
  ·have z:(scope.names.lookup y == some NameKind.cell)=true:=z
   have z:scope.names.lookup y=some .cell:=by simpa using z
   have e:jd.cells.lookup y=some c:=e
   rw [NF] at e
   rcases nS (PySem.mem_of_lookup e) with hm|⟨_,h2,_⟩
   ·rcases my hm with hm|⟨h1,_⟩
    ·cases hm
    ·have q:=ok.uniq _ h1
     rw [z] at q;cases q
   ·rw [Heap.size_push] at h2
    exact px h2
  ·show b≠jd.locals
   rw [hL];exact cF (RT b hb).2
  ·have e:jd.cells.lookup y=some c:=e
   rcases mem e with ⟨h1,_⟩|⟨h1,_⟩
   ·exact (RT b hb).1.2.2.2.2.1 y c h1 z
   ·have h2:s.heap.objs.size+1≤b:=by rw [←z];exact h1
    exact absurd (bC (RT b hb).2 (px h2)) (eK _)
  ·rcases (RT b hb).1.2.2.2.1 with z|z
   ·exact I.ok.Kg b o e z
   ·exact absurd (bC (Heap.lt_size e) (aO I.ok.Kf z)) (eK _)
  ·rcases aF.mp (I.FP b z) with z|z
   ·exact (RT b hb).1.2.1 z
   ·exact (RT b hb).1.2.2.1 z
 refine ⟨DC,rfl,I.bare,Un.kept kp,⟨fun _=>none,?_,fun i y av e1 e2 e3=>?_⟩,fun y c e=>?_,?_,fun y c e=>?_,fun p hp=>?_,I.fR.kept kp,by rw [g0];exact I.len⟩
 ·show Heap.Ns _ jd.locals _
  rw [hL]
  exact Heap.Ns.keeps (Heap.Ns.new ..) fun b o e=>pushCells_keeps _ _ _ _ e
 ·obtain ⟨e2,kI⟩:=ur e2
  have RU:scope.names.lookup y=some .free∧(jd.kindOf y=some .cell∨jd.kindOf y=some .free):=by
   have key:∀k,jd.scope.names.lookup y=some k→k=.local∨k=.cell∨k=.free→scope.names.lookup y=some .free∧(jd.kindOf y=some .cell∨jd.kindOf y=some .free):=fun k hk WD=>by
    have Yi:=hk
    rw [WC] at hk
    obtain ⟨k',e,r⟩:=pU hk
    have no:¬(k'=.local∨k'=.cell):=fun hh=>by
     rcases ok.own _ (PySem.mem_of_lookup e) hh with e'|e'
     ·obtain ⟨p,hp,ZG⟩:=ba.mp e'
      have e3:=ok.ix p hp
      have:p.1=y:=ZG
      rw [this] at e3
      exact kI (ba.mpr ⟨p,hp,xE hN e3 e1⟩)
     ·exact e' (b7 e1)
    rcases r with rfl|⟨rfl,rfl⟩
    ·rcases WD with rfl|rfl|rfl
     ·exact absurd (.inl rfl) no
     ·exact absurd (.inr rfl) no
     ·exact ⟨e,.inr Yi⟩
    ·exact ⟨e,.inl Yi⟩
   have e3:OM jd.scope y:=e3
   rcases e3 with e3|e3|e3
   ·exact key _ e3 (.inl rfl)
   ·exact key _ e3 (.inr (.inl rfl))
   ·exact key _ e3 (.inr (.inr rfl))
  obtain ⟨m,hn,hl⟩:=I.loc
  have WE:OM X.env.scope y:=(ok.free _ (PySem.mem_of_lookup RU.1) rfl).elim (fun k=>.inr (.inl k)) (fun k=>.inr (.inr k))
  obtain ⟨w,r,q⟩:=hl i y av e1 e2 WE
  refine ⟨w,r,.inr ⟨RU.2,?_⟩⟩
  obtain ⟨c,h1,h2⟩:=look RU.1
  rcases q with ⟨k,_⟩|⟨_,c',e',z⟩
  ·have k:X.env.scope.names.lookup y=some .local:=k
   rcases ok.free _ (PySem.mem_of_lookup RU.1) rfl with k'|k'<;>rw [show X.env.scope.names.lookup y=_ from k'] at k<;>cases k
  ·rw [h2] at e';cases e'
   exact ⟨c,h1,z.keeps kp⟩
 ·have e:jd.cells.lookup y=some c:=e
  rcases mem e with ⟨h1,_⟩|⟨_,z⟩
  ·obtain ⟨w,z⟩:=I.cell y c h1
   exact ⟨w,z.keeps kp⟩
  ·exact ⟨_,z⟩
 ·show H jd.locals=none
  rw [hL];exact I.fR.fresh (aW _)
 ·have e:jd.cells.lookup y=some c:=e
  rcases mem e with ⟨h1,_⟩|⟨h1,_⟩
  ·exact I.pM y c h1
  ·exact I.fR.fresh (px h1)
 ·exact absurd (show p∈([]:List (Addr×Obj))++[] from hp) (by simp)
theorem Qw {E:Value→Shared→Prop} {D:Addr} {xs:List V} {y:V} {v:Value} {Q:Value→Shared→Prop} (I:Inv X pins σ H s) (hD:H D=some (.lst xs)) (hz:xs.length < sizeLine) (r:RelV y v)
  (h:∀s',Inv X pins σ (upd H D (.lst (xs++[y]))) s'→Q .none s'):wpAny (model X.prog X.w) X.A (call (.builtin "list.append") [.ref D,v]) Q E s:=by
 obtain ⟨WG,bR,n,ri,e⟩:=I.fR D _ hD
 have hl:=ri.length
 refine append_at (hsz:=by rw [aH];omega) e fun h' sb MQ=>?_
 refine h { s with heap:=h' } (I.write (t':=s.toks) (by rw [hD];trivial) (.inl rfl) (fun b u hb q=>(sb.2 b hb).trans q) ⟨_,MQ⟩ ⟨by rw [ax];exact hz,bR++[v],n+1,ri.append (.cons r .nil),?_⟩)
 rw [MQ]
 simp
def NG (X:Cx) (ifs:List Expr) (t:TT):Prop :=
 ∀(pins:List (Addr×Obj)) (s:Shared) (σ:St) (H:Hp) (Q:Bool→Hp→Prop),Inv X pins σ H s→t σ H Q →
  wpAny (model X.prog X.w) X.A (forIn ifs true fun c r=>if r=true then do let ok ←isTrue c X.env (eval c X.env);pure (ForInStep.yield ok) else pure (ForInStep.yield r)) (TP X pins σ Q) X.xe s
def WH:TT:=fun _ H Q=>Q true H
theorem NH:NG X [] WH:=fun _ _ _ H _ I h=>wpAny_tests_nil ⟨H,I,h⟩
theorem NI {c:Expr} {t:TT} (h:PT X c t):NG X [c] t:=fun pins s σ H Q I hw=>wpAny_tests_one (h pins s σ H Q I hw)
end
theorem Jf {α:Type} {t:Sem α} {Q Q':α→Shared→Prop} {M:Model} {A:Around} {E:Value→Shared→Prop} {s:Shared} (h:wpAny M A t Q (fun _ _=>False) s) (hQ:∀a s,Q a s→Q' a s):wpAny M A t Q' E s:=wpAny_mono h hQ fun _ _ z=>False.elim z
theorem B9 {prog:Program} {w:World} {A:Around} {R:Result→Shared→Prop} {s:Shared} {elt target iter:Expr} {ifs:List Expr} {scope:Scope} {pos:Pos} {it acc:Value} {env:Env} (I:Nat→Shared→Prop)
  (turn:∀n s,I n s→wpAny (model prog w) A (pyNext it) (fun r ft=>match r with
   | none=>R (.ok .next) ft
   | some v=>wpAny (model prog w) A (letOwnedTupleGo target it v) (fun _ OW=>wpAny (model prog w) A (assign target env v) (fun _ pN =>
     wpAny (model prog w) A (forIn ifs true fun c r=>if r=true then do let ok ←isTrue c env (eval c env);pure (ForInStep.yield ok) else pure (ForInStep.yield r)) (fun ok Kr =>
      if ok=true then wpAny (model prog w) A (eval elt env) (fun x S0 =>
       wpAny (model prog w) A (call (.builtin "list.append") [acc,x]) (fun _ S4=>∃m,m < n∧I m S4) (notedBy (model prog w) A env fun e s'=>R (.error e) s') S0) (notedBy (model prog w) A env fun e s'=>R (.error e) s') Kr
      else ∃m,m < n∧I m Kr) (notedBy (model prog w) A env fun e s'=>R (.error e) s') pN) (notedBy (model prog w) A env fun e s'=>R (.error e) s') OW) (notedBy (model prog w) A env fun e s'=>R (.error e) s') ft) (notedBy (model prog w) A env fun e s'=>R (.error e) s') s)
  (n:Nat) (h:I n s) :
  codeAny (model prog w) A (.compLoop (.ListComp elt [⟨target,iter,ifs,0⟩] scope pos) 0 it acc env) R s:=by
 refine codeAny_loop rfl I (fun n s hI=>?_) n h
 show wpAny _ A ((compTurn (.ListComp elt [⟨target,iter,ifs,0⟩] scope pos) 0 it acc env).onRaise (fun x=>do noteFrame x env;theTreesLotGoes x)) _ _ s
 refine wpAny_noted ?_
 rw [compTurn_list]
 refine wpAny_bind (wpAny_standAt (wpAny_bind (wpAny_mono (turn n s hI) (fun r ft NJ=>?_) fun _ _ h'=>h')))
 cases r with
 | none=>exact wpAny_pure NJ
 | some v =>
  refine wpAny_bind (wpAny_mono NJ (fun _ OW S7=>?_) fun _ _ h'=>h')
  refine wpAny_bind (wpAny_mono S7 (fun _ pN WI=>wpAny_bind (wpAny_mono WI (fun ok Kr S8=>?_) fun _ _ h'=>h')) fun _ _ h'=>h')
  cases ok with
  | false=>exact wpAny_pure ⟨rfl,S8⟩
  | true =>
   exact wpAny_bind (wpAny_bind (wpAny_mono S8 (fun x S0 WJ=>wpAny_bind (wpAny_mono WJ (fun _ S4 WK=>wpAny_pure (wpAny_pure ⟨rfl,WK⟩)) fun _ _ h'=>h')) fun _ _ h'=>h'))
section
variable {X:Cx}
def OX (wi:TI) (g:TG) (tt:TT) (te:TE) (vs:List Nat):TE:=fun σ H Q=>wi σ H fun J H1=>∀D,H1 D=none→∃W:Nat→Nat→Hp→Prop,(∃m,W 0 m (upd H1 D (.lst [])))∧∀i m H,W i m H →
 (J.stop i H∧Q (.ref D) H)∨(J.go i H∧∃Nx:Hp→Prop,(∀H',Nx H'→∃m',m' < m∧W (i+1) m' H')∧∀x H',J.IV i H x H'→g x (wipe σ vs) H' fun MR H2=>wipe MR vs=wipe σ vs∧tt MR H2 fun b H3 =>
  if b=true then te MR H3 fun y H4=>∃acc,H4 D=some (.lst acc)∧acc.length < sizeLine∧Nx (upd H4 D (.lst (acc++[y]))) else Nx H3)
theorem Hy {pins:List (Addr×Obj)} {s:Shared} {σ:St} {H:Hp} {Q:VK} {elt tg iter:Expr} {ifs:List Expr} {scope:Scope} {own:List (Str×Nat)} {pos pos':Pos} {wi:TI} {g:TG} {tt:TT} {te:TE} {use:Option (Value→Sem Unit)} {Qf:Value→Shared→Prop}
  (hc:X.calm=true) (hN:X.N.Nodup) (I:Inv X pins σ H s) (hi:PI X tg iter wi) (ok:D1 X.N X.env.scope scope own)
  (hg:∀(s:Shared) (H:Hp) (C:Addr) (cl:List (Str×Addr)) (fp:List Addr),PG (X.ra s H scope (compEnvC scope cl C X.env) fp) tg g) (ht:∀(s:Shared) (H:Hp) (C:Addr) (cl:List (Str×Addr)) (fp:List Addr),NG (X.ra s H scope (compEnvC scope cl C X.env) fp) ifs tt)
  (he:∀(s:Shared) (H:Hp) (C:Addr) (cl:List (Str×Addr)) (fp:List Addr),PE (X.ra s H scope (compEnvC scope cl C X.env) fp) elt te) (hs:∀x,foldedSetIterable iter X.env x=pure x)
  (h:OX wi g tt te (own.map (·.2)) σ H Q)
  (ZH:∀D C s' m H',Inv X pins σ H' s'→Q (.ref D) H'→s'.heap.Ns C m→ug X pins H' C→compPost (model X.prog X.w) X.A X.xe use Qf (.ref D) C (.ok .next) s') :
  wpAny (model X.prog X.w) X.A (comprehension (.ListComp elt [⟨tg,iter,ifs,0⟩] scope pos) scope X.env pos' (newList []) false (eval iter X.env) use) Qf X.xe s:=by
 have vm:∀y∈scope.names,y.2=.free→∃c,X.env.cells.lookup y.1=some c:=fun y hy e=>by
  rcases ok.free y hy e with k|k
  ·exact I.ok.has _ (.inl k)
  ·exact I.ok.has _ (.inr k)
 refine wpAny_comprehension_free (use:=use) rfl hs (Gb vm) ok.kind (fun y hy e=>by rw [ok.uniq y hy,e])
  (gX (hi pins s σ H _ I h) fun xv s1 hx=>gX hx fun V4 s2 h2=>?_)
 obtain ⟨it,fp,tn,J,H2,e,I2,T,q_,f2,q⟩:=h2
 subst e
 refine wpAny_newObj_type (DZ ?_) (by show 0≤sizeLine;decide)
 generalize hD:s2.heap.objs.size=D
 have ZI:H2 D=none:=I2.fR.fresh (zJ hD)
 obtain ⟨W,⟨m0,w0⟩,turn⟩:=q D ZI
 generalize Yj:({ s2 with heap:=s2.heap.push { cls:=.type "list",data:=.seq ([]:List Value).toArray } }:Shared)=s3
 have I3:Inv X pins σ (upd H2 D (.lst [])) s3:=by
  rw [←Yj]
  refine I2.laid (t':=s2.toks) (fun b o e=>Heap.get?_push_of_some _ e) (zJ hD) ⟨c8 _,[],0,.nil,?_⟩
  rw [←hD]
  exact Heap.get?_push_size _ rfl
 have h3:s3.heap=s2.heap.push { cls:=.type "list",data:=.seq ([]:List Value).toArray }:=by rw [←Yj]
 have sz:∀b∈fp,b < s2.heap.objs.size:=fun b hb=>by
  obtain ⟨o,e,_⟩:=T.obj _ _ q_ b hb
  exact Heap.lt_size e
 have f3:∀b∈fp,ug X pins (upd H2 D (.lst [])) b∧b < s3.heap.objs.size:=fun b hb=>by
  have DO:=sz b hb
  refine ⟨⟨?_,(f2 b hb).2⟩,by rw [h3,Heap.size_push];exact zL DO⟩
  rw [aM (by rw [←hD];exact cF DO)]
  exact (f2 b hb).1
 have oj:tn 0 s3.heap:=T.keep _ _ _ q_ fun b _ o e=>by rw [h3];exact Heap.get?_push_of_some _ e
 have I4:=D2 I3 ok hN f3
 have pg:=hg s3 (upd H2 D (.lst [])) s3.heap.objs.size (cellsFrom (s3.heap.objs.size+1) scope.names (dY X.env.cells scope.names [])) fp
 have pt:=ht s3 (upd H2 D (.lst [])) s3.heap.objs.size (cellsFrom (s3.heap.objs.size+1) scope.names (dY X.env.cells scope.names [])) fp
 have pe:=he s3 (upd H2 D (.lst [])) s3.heap.objs.size (cellsFrom (s3.heap.objs.size+1) scope.names (dY X.env.cells scope.names [])) fp
 show codeAny _ _ (.compStart (.ListComp elt [⟨tg,iter,ifs,0⟩] scope pos) 0 (.ref it) (.ref D) (compEnvC scope (cellsFrom (s3.heap.objs.size+1) scope.names (dY X.env.cells scope.names [])) s3.heap.objs.size X.env)) (compPost (model X.prog X.w) X.A X.xe use Qf (.ref D) s3.heap.objs.size) { s3 with heap:=pushCells (s3.heap.push { cls:=.type "dict",data:=.dict #[] }) scope.names }
 have Yk:∀b∈fp,(upd H2 D (.lst [])) b=none:=fun b hb=>(f3 b hb).1.1
 generalize ZJ:compEnvC scope (cellsFrom (s3.heap.objs.size+1) scope.names (dY X.env.cells scope.names [])) s3.heap.objs.size X.env=ce at I4 pg pt pe ⊢
 have cL:ce.locals=s3.heap.objs.size:=by subst ZJ;rfl
 generalize hH3:upd H2 D (.lst [])=H3 at I3 I4 pg pt pe w0 Yk f3
 generalize ZK:({ s3 with heap:=pushCells (s3.heap.push { cls:=.type "dict",data:=.dict #[] }) scope.names }:Shared)=s4 at I4 ⊢
 have vo:tn 0 s4.heap:=T.keep _ _ _ oj fun b _ o e=>by rw [←ZK];exact pushCells_keeps _ _ _ _ (Heap.get?_push_of_some _ e)
 have FU:∀{fb:St} {H':Hp} {s':Shared},Inv (X.ra s3 H3 scope ce fp) [] fb H' s'→(∀b∈fp,H' b=none)→∀b∈fp,ug (X.ra s3 H3 scope ce fp) [] H' b:=fun {fb H' s'} I' hn b hb =>
  ⟨hn b hb,(I'.ok.U9 b hb).1,I'.ok.Kh b hb,.inl hb,fun x c e=>(I'.ok.U9 b hb).2 x c e,fun p hp=>absurd (show p∈([]:List (Addr×Obj))++[] from hp) (by simp)⟩
 have loop:codeAny (model X.prog X.w) X.A (.compLoop (.ListComp elt [⟨tg,iter,ifs,0⟩] scope pos) 0 (.ref it) (.ref D) ce) (compPost (model X.prog X.w) X.A X.xe use Qf (.ref D) s3.heap.objs.size) s4:=by
  refine B9 (fun n s'=>∃i H',Inv (X.ra s3 H3 scope ce fp) [] (wipe σ (own.map (·.2))) H' s'∧tn i s'.heap∧(∀b∈fp,H' b=none)∧W i n H') ?_ m0 ⟨0,H3,I4,vo,Yk,w0⟩
  rintro n s5 ⟨i,H5,I5,uh,n5,w5⟩
  rcases turn i n H5 w5 with ⟨stop,qq⟩|⟨go,Nx,ZL,step⟩
  ·have td:=T.done (X.ra s3 H3 scope ce fp) rfl rfl rfl hc i [] s5 _ H5 (fun _ _=>False) I5 (FU I5 n5) uh stop
   refine Jf td fun r s6 ⟨hr,I6⟩=>?_
   subst hr
   have I7:Inv X pins σ H5 s6:=I3.Se (ch:=fp) I6.os I6.base I6.fR I6.bare fun b hb=>⟨(f3 b hb).1.2.2.2.1,(f3 b hb).1.2.1,(f3 b hb).1.2.2.2.2.1,(f3 b hb).1.2.2.2.2.2⟩
   have nC:H5 s3.heap.objs.size=none:=by
    have z:H5 ce.locals=none:=I6.free
    rw [cL] at z
    exact z
   obtain ⟨m,hn,_⟩:=I6.loc
   have hn:s6.heap.Ns ce.locals m:=hn
   rw [cL] at hn
   exact ZH D s3.heap.objs.size s6 m H5 I7 qq hn (I3.FQ (aW _) nC)
  ·have ti:=T.item (X.ra s3 H3 scope ce fp) rfl rfl rfl hc i [] s5 _ H5 (fun _ _=>False) I5 (FU I5 n5) uh go
   refine Jf ti fun r s6 ⟨u,hr,h6⟩=>?_
   subst hr
   refine Jf h6 fun _ s7 ⟨x,H7,I7,r7,y7,Gd,n7⟩=>?_
   have ZM:=I7.pinned (FU I7 n7) (T.obj _ _ Gd)
   refine Jf (pg _ s7 _ H7 x u _ ZM r7 (step x H7 y7)) fun _ s8 ⟨Vi,H8,I8,Yl,q8⟩=>?_
   refine Jf (pt _ s8 Vi H8 _ I8 q8) fun b s9 ⟨H9,I9,q9⟩=>?_
   have fin:∀{s':Shared} {H':Hp},Inv (X.ra s3 H3 scope ce fp) ([]++xH fp s7.heap) Vi H' s'→Nx H'→∃m,m < n∧∃i H',Inv (X.ra s3 H3 scope ce fp) [] (wipe σ (own.map (·.2))) H' s'∧tn i s'.heap∧(∀b∈fp,H' b=none)∧W i m H':=fun {s' H'} I' nx=>by
    obtain ⟨m',hm,w'⟩:=ZL H' nx
    have S9:∀b∈fp,∀o,s7.heap.get? b=some o→s'.heap.get? b=some o∧H' b=none:=fun b hb o e =>
     let z:=I'.pin (b,o) (dA _ (dA _ (rS hb e)))
     ⟨z.1,z.2.1⟩
    have hl:(wipe σ (own.map (·.2))).length=Vi.length:=by rw [←Yl,g0]
    refine ⟨m',hm,i+1,H',(I'.sy (pins:=[])).weak hl (fun j v e=>?_),T.keep _ _ _ Gd fun b hb o e=>(S9 b hb o e).1,fun b hb=>?_,w'⟩
    ·rw [←Yl] at e
     exact (ur e).1
    ·obtain ⟨o,e,_⟩:=T.obj _ _ Gd b hb
     exact (S9 b hb o e).2
   cases b with
   | false =>
    simp only [M_,if_false] at q9 ⊢
    exact fin I9 q9
   | true =>
    simp only [if_true] at q9 ⊢
    refine Jf (pe _ s9 Vi H9 _ I9 q9) fun z WL ⟨yv,ZN,ZO,ZP,acc,WM,Qx,nx⟩=>?_
    exact Qw (X:=X.ra s3 H3 scope ce fp) ZO WM Qx ZP fun s11 ZQ=>fin ZQ nx
 exact codeAny_compStart_list loop (T.self X.A 0 _ _ _ vo loop)
theorem OY {elt tg iter:Expr} {ifs:List Expr} {scope:Scope} {own:List (Str×Nat)} {pos:Pos} {wi:TI} {g:TG} {tt:TT} {te:TE} (hc:X.calm=true) (hN:X.N.Nodup) (hi:PI X tg iter wi) (ok:D1 X.N X.env.scope scope own)
  (hg:∀(s:Shared) (H:Hp) (C:Addr) (cl:List (Str×Addr)) (fp:List Addr),PG (X.ra s H scope (compEnvC scope cl C X.env) fp) tg g) (ht:∀(s:Shared) (H:Hp) (C:Addr) (cl:List (Str×Addr)) (fp:List Addr),NG (X.ra s H scope (compEnvC scope cl C X.env) fp) ifs tt)
  (he:∀(s:Shared) (H:Hp) (C:Addr) (cl:List (Str×Addr)) (fp:List Addr),PE (X.ra s H scope (compEnvC scope cl C X.env) fp) elt te) (hs:∀x,foldedSetIterable iter X.env x=pure x:=by intro _;rfl) :
  PE X (.ListComp elt [⟨tg,iter,ifs,0⟩] scope pos) (OX wi g tt te (own.map (·.2))):=by
 intro pins s σ H Q I h
 rw [eval_ListComp]
 refine Hy hc hN I hi ok hg ht he hs h fun D C s' m H' I' q hn f=>⟨m,hn,fun OZ sb=>?_⟩
 obtain ⟨f0,f1,f2,f3,f4,f5⟩:=f
 exact ⟨.ref D,H',I'.turned (t':=s'.toks) (fun b o hb e=>(sb.2 b hb).trans e) f0 f1 f3 f4 f5,rfl,q⟩
theorem KU {i:Nat} {y:Str} {py:Pos} {elt tg iter:Expr} {ifs:List Expr} {scope:Scope} {own:List (Str×Nat)} {pos S_:Pos} {wi:TI} {g:TG} {tt:TT} {te:TE} (hc:X.calm=true) (hN:X.N.Nodup) (hy:X.N[i]?=some y) (Ym:X.env.scope.names.lookup y=some .local)
  (WN:swapsWith (.ListComp elt [⟨tg,iter,ifs,0⟩] scope pos) (some (.Name y py)) S_.line X.env=pure true) (hi:PI X tg iter wi) (ok:D1 X.N X.env.scope scope own)
  (hg:∀(s:Shared) (H:Hp) (C:Addr) (cl:List (Str×Addr)) (fp:List Addr),PG (X.ra s H scope (compEnvC scope cl C X.env) fp) tg g) (ht:∀(s:Shared) (H:Hp) (C:Addr) (cl:List (Str×Addr)) (fp:List Addr),NG (X.ra s H scope (compEnvC scope cl C X.env) fp) ifs tt)
  (he:∀(s:Shared) (H:Hp) (C:Addr) (cl:List (Str×Addr)) (fp:List Addr),PE (X.ra s H scope (compEnvC scope cl C X.env) fp) elt te) (hs:∀x,foldedSetIterable iter X.env x=pure x:=by intro _;rfl) :
  PS X (.Assign [.Name y py] (.ListComp elt [⟨tg,iter,ifs,0⟩] scope pos) S_) (vP (OX wi g tt te (own.map (·.2))) (kU i)):=by
 intro pins s σ H D I h
 rw [exec_Assign_Name_used _ _ _ _ WN]
 refine wpAny_bind (wpAny_standAt (wpAny_bind ?_))
 show wpAny _ X.A (do let _ ←comprehension (.ListComp elt [⟨tg,iter,ifs,0⟩] scope pos) scope X.env (firstIterPos [⟨tg,iter,ifs,0⟩] pos) (newList []) false (eval iter X.env) (some (assign (.Name y py) X.env))) _ _ s
 have h:OX wi g tt te (own.map (·.2)) σ H (fun x H1=>kU i x σ H1 D.nx):=h
 refine wpAny_bind (gX (Hy (Qf:=fun _ s'=>SP X pins D .next s') hc hN I hi ok hg ht he hs h fun L C s' m H' I' q hn f=>?_) fun _ s' hq=>wpAny_pure (wpAny_pure hq))
 show wpAny _ _ (assign (.Name y py) X.env (.ref L)) _ _ _
 refine wpAny_assign_Name (A_ (v:=V.ref L) I' hN hy (.inl Ym) rfl (fun s2 I2 ⟨a,sb,ha⟩=>?_) (.inr Ym))
 obtain ⟨f0,f1,f2,f3,f4,f5⟩:=f
 have ZR:C≠a:=by
  rcases ha with z|z
  ·rw [z];exact f1
  ·exact fun e=>f4 y a z e.symm
 refine ⟨m,hn.sameBut sb ZR,fun h3 ZS=>?_⟩
 exact ⟨_,H',I2.turned (t':=s2.toks) (fun b o hb e=>(ZS.2 b hb).trans e) f0 f1 f3 f4 f5,q⟩
end
def Qy (N:List Str) (sc scope:Scope) (own:List (Str×Nat)):Bool :=
 (match scope.kind with|.function=>true|_=>false)&&(scope.names.all fun y=>decide (scope.names.lookup y.1=some y.2))&&(own.all fun p=>decide (N[p.2]?=some p.1)) &&
  (scope.names.all fun y=>match y.2 with
   | .free=>(match sc.names.lookup y.1 with|some .cell=>true|some .free=>true|_=>false)
   | .local=>decide (y.1∈own.map (·.1))||decide (y.1 ∉ N)
   | .cell=>decide (y.1∈own.map (·.1))||decide (y.1 ∉ N)
   | _=>true)
theorem xO {N:List Str} {sc scope:Scope} {own:List (Str×Nat)} (h:Qy N sc scope own=true):D1 N sc scope own:=by
 unfold Qy at h
 simp only [ag,aX,decide_eq_true_eq] at h
 obtain ⟨⟨⟨h1,h2⟩,h3⟩,h4⟩:=h
 refine ⟨?_,h2,h3,fun y hy e=>?_,fun y hy e=>?_⟩
 ·split at h1
  ·assumption
  ·cases h1
 ·have q:=h4 y hy
  simp only [e] at q
  split at q<;>first|exact .inl (by assumption)|exact .inr (by assumption)|cases q
 ·have q:=h4 y hy
  rcases e with e|e<;>(simp only [e,cZ,decide_eq_true_eq] at q;exact q)
end L2
namespace L2
open PySem PySem.Spec PyProof.Rows
section
variable {prog:Program} {w:World} {A:Around} {R:Result→Shared→Prop} {s:Shared} {elt t0 i0 t1 i1:Expr} {ZT ZU:List Expr} {scope:Scope} {pos:Pos} {it acc:Value} {env:Env}
end
section
variable {X:Cx}
end
end L2
namespace L2
open PySem PySem.Spec PyProof.Rows
section
variable {κ:Type} [DecidableEq κ]
def NK (jH:List (κ×V)) (k:κ):Option V:=(jH.find? fun kv=>decide (kv.1=k)).map (·.2)
def putK (jH:List (κ×V)) (k:κ) (v:V):List (κ×V) :=
 if (jH.any fun kv=>decide (kv.1=k))=true then jH.map (fun kv=>if kv.1=k then (kv.1,v) else kv) else jH++[(k,v)]
theorem BV.getD {o:Option V} {u:Option Value} {d:V} {d':Value} (r:BV o u) (rd:RelV d d'):RelV (o.getD d) (u.getD d'):=by
 cases o with
 | none=>cases u with
  | none=>exact rd
  | some _=>exact (show False from r).elim
 | some _=>cases u with
  | none=>exact (show False from r).elim
  | some _=>exact r
end
section
variable {P:Program} {w:World} {H:Hp} {h:Heap} {a:Addr}
end
def NL (H:Hp) (a:Addr) (y:V) (r:Option V):Prop :=
 (∃jH k,Rd H a (.dK jH)∧y=kV k∧r=NK jH k)∨∃jH k b,Rd H a (.dT jH)∧y=.ref b∧H b=some (.tup (k.map kV))∧r=NK jH k
def NM (H:Hp) (a:Addr) (y v:V) (H':Hp):Prop :=
 (∃jH k,H a=some (.dK jH)∧y=kV k∧jH.length < sizeLine∧H'=upd H a (.dK (putK jH k v))) ∨
 ∃jH k b,H a=some (.dT jH)∧y=.ref b∧H b=some (.tup (k.map kV))∧jH.length < sizeLine∧H'=upd H a (.dT (putK jH k v))
theorem NL.k {H:Hp} {a:Addr} {jH:List (Key×V)} {k:Key} (e:H a=some (.dK jH)):NL H a (kV k) (NK jH k):=.inl ⟨jH,k,.inl e,rfl,rfl⟩
theorem NL.t {H:Hp} {a b:Addr} {jH:List (List Key×V)} {k:List Key} (e:H a=some (.dT jH)) (eb:H b=some (.tup (k.map kV))):NL H a (.ref b) (NK jH k):=.inr ⟨jH,k,b,.inl e,rfl,eb,rfl⟩
theorem NM.k {H:Hp} {a:Addr} {jH:List (Key×V)} {k:Key} {v:V} (e:H a=some (.dK jH)) (hl:jH.length < sizeLine):NM H a (kV k) v (upd H a (.dK (putK jH k v))):=.inl ⟨jH,k,e,rfl,hl,rfl⟩
theorem NM.t {H:Hp} {a b:Addr} {jH:List (List Key×V)} {k:List Key} {v:V} (e:H a=some (.dT jH)) (eb:H b=some (.tup (k.map kV))) (hl:jH.length < sizeLine) :
  NM H a (.ref b) v (upd H a (.dT (putK jH k v))):=.inr ⟨jH,k,b,e,rfl,eb,hl,rfl⟩
section
variable {X:Cx} {pins:List (Addr×Obj)} {σ:St} {H:Hp} {s:Shared} {a:Addr} {y v:V} {u r:Value} {o:Option V} {A:Around} {E:Value→Shared→Prop}
end
section
variable {X:Cx} {pins:List (Addr×Obj)} {σ:St} {H:Hp} {s:Shared} {a:Addr} {jH:List (Key×V)} {k:Key} {u:Value} {A:Around} {E:Value→Shared→Prop}
end
section
variable {X:Cx} {o i e value:Expr} {pos pos' uj:Pos} {td ty tv:TE}
end
section
variable {X:Cx} {pos:Pos}
end
section
variable {X:Cx} {pins:List (Addr×Obj)} {σ:St} {H:Hp} {s:Shared} {a:Addr} {y d:V} {u r:Value} {o:Option V} {A:Around} {E:Value→Shared→Prop}
end
section
variable {X:Cx} {o e f:Expr} {apos jM:Pos} {td ty tx:TE}
end
section
variable {X:Cx} {pins:List (Addr×Obj)} {σ:St} {H:Hp} {s:Shared} {a:Addr} {jH:List (Key×V)} {A:Around} {E:Value→Shared→Prop}
end
section
variable {X:Cx} {pins:List (Addr×Obj)} {σ:St} {H:Hp} {s:Shared} {a:Addr} {y:V} {u:Value} {A:Around} {E:Value→Shared→Prop}
end
end L2
namespace L2
open PySem PySem.Spec PyProof.Rows
section
variable {prog:Program} {w:World} {A:Around} {E:Value→Shared→Prop}
end
section
variable {X:Cx}
end
end L2
namespace L2
open PySem PySem.Spec PyProof.Rows
theorem pV:bootBuiltins "reversed" = some (.type "reversed"):=by decide +kernel
section
variable {X:Cx} {pins:List (Addr×Obj)} {σ:St} {H:Hp} {s:Shared} {h':Heap}
theorem Inv.NN {t':Nat} {ch:List Addr} (I:Inv X pins σ H s) (k:∀b o,b ∉ ch→s.heap.get? b=some o→h'.get? b=some o) (hf:∀b∈ch,ug X pins H b):Inv X pins σ H { s with heap:=h',toks:=t' }:=by
 have OO:∀b u,H b=some u→b ∉ ch:=fun b u e z=>by
  have q:=(hf b z).1
  rw [q] at e;cases e
 refine I.step (g':=s.gens) (d':=s.drawn) (ch:=ch) (fun b hb=>⟨(hf b hb).2.2.2.1,(hf b hb).2.1,(hf b hb).2.2.2.2.1,(hf b hb).2.2.2.2.2⟩) (fun b o _ _ hc e _=>k b o hc e) (fun b o _ _ hc e _=>⟨o.slots,k b o hc e⟩)
  (fun _ _ _ _ n=>n) (fun b o hc e=>⟨o,k b o hc e⟩) (fun _ _ e=>e) (fun _ _ _ e=>e) (fun b ps e=>⟨#[],by rw [e];simp⟩) (fun m hm=>?_) (fun b u e=>?_) I.bare
 ·obtain ⟨o,es,ep,ho,r⟩:=hm
  exact ⟨o,es,ep,k _ o (fun z=>(hf _ z).2.1 rfl) ho,r⟩
 ·refine (I.fR b u e).FO (fun c v hc q=>k c v ?_ q) (fun _ q=>q) fun _ _ q=>q
  rcases hc with z|z
  ·rw [z];exact OO b u e
  ·exact OO c _ z
theorem Inv.uu {t':Nat} {ch:List Addr} {T:Addr} {ob:HO} (I:Inv X pins σ H s) (k:∀b o,b ∉ ch→s.heap.get? b=some o→h'.get? b=some o) (hf:∀b∈ch,ug X pins H b) (hT:s.heap.objs.size≤T)
  (new:i6 X.prog X.w (upd H T ob) h' T ob):Inv X pins σ (upd H T ob) { s with heap:=h',toks:=t' }:=by
 have hn:H T=none:=I.fR.fresh hT
 have OO:∀b u,H b=some u→b ∉ ch:=fun b u e z=>by
  have q:=(hf b z).1
  rw [q] at e;cases e
 refine I.step (g':=s.gens) (d':=s.drawn) (ch:=ch) (fun b hb=>⟨(hf b hb).2.2.2.1,(hf b hb).2.1,(hf b hb).2.2.2.2.1,(hf b hb).2.2.2.2.2⟩) (fun b o _ _ hc e _=>k b o hc e) (fun b o _ _ hc e _=>⟨o.slots,k b o hc e⟩)
  (fun b o _ e n=>?_) (fun b o hc e=>⟨o,k b o hc e⟩) (fun b xs e=>?_) (fun b o u e=>?_) (fun b ps e=>⟨#[],?_⟩) (fun m hm=>?_) (fun b u e=>?_) I.bare
 ·rw [aM (cF (bC (Heap.lt_size e) hT))];exact n
 ·rw [aM (bP e hn)];exact e
 ·rw [aM (bP e hn)];exact e
 ·rw [aM (bP e hn),e];simp
 ·obtain ⟨o,es,ep,ho,r⟩:=hm
  exact ⟨o,es,ep,k _ o (fun z=>(hf _ z).2.1 rfl) ho,r⟩
 ·by_cases hb:b=T
  ·subst hb
   rw [aK] at e
   cases e
   exact new
  ·rw [aM hb] at e
   refine (I.fR b u e).FO (fun c v hc q=>k c v ?_ q) (fun c q=>by rw [aM (bP q hn)];exact q) fun c xs q=>by rw [aM (bP q hn)];exact q
   rcases hc with z|z
   ·rw [z];exact OO b u e
   ·exact OO c _ z
end
section
variable {X:Cx}
theorem Qz {tg:Expr} {pins:List (Addr×Obj)} {σ:St} {H:Hp} {s:Shared} {R:It→Hp→Prop} {J:It} {tn:Nat→Heap→Prop} {tk:Nat} (I:Inv X pins σ H s) (o:Obj)
  (T:Turn X.prog X.w X.K tg J [s.heap.objs.size] s.heap.objs.size tn) (st:tn 0 (s.heap.push o)) (q:R J H):V3 X pins σ tg R (.ref s.heap.objs.size) { s with heap:=s.heap.push o,toks:=tk }:=by
 refine ⟨s.heap.objs.size,[s.heap.objs.size],tn,J,H,rfl,I.kept fun b ob e=>Heap.get?_push_of_some _ e,T,st,fun b hb=>?_,q⟩
 have e:b=s.heap.objs.size:=by simpa using hb
 subst e
 exact I.FQ (aW _) (I.fR.fresh (aW _))
end
def Yn (i j c:Int) (n:Nat):Prop:=c≠0∧c.natAbs < 1073741824∧Builtin.Range.small i j c=true∧Builtin.Range.rangeSize i j c=n
theorem Yn.neg {i j:Int} (ha:-(2 ^ 62)≤i) (ZV:i < 2 ^ 62) (hb:-(2 ^ 62)≤j) (RV:j < 2 ^ 62):Yn i j (-1) (i - j).toNat :=
 ⟨by decide,by decide,PySem.W.small_down ha ZV hb RV,PySem.W.rangeSize_downNat i j⟩
section
variable {X:Cx} {tg:Expr}
end
def WO (K:aa) (a:Addr) (n:Nat):It :=
 ⟨fun i H=>i < n∧∃(xs:List V) (x:V),eS K H a xs∧xs[n - 1 - i]?=some x,fun i H x H'=>H'=H∧∀xs,eS K H a xs→xs[n - 1 - i]?=some x,fun i _=>n≤i⟩
theorem KW {P:Program} {w:World} {K:aa} {tg:Expr} (a it:Addr) (n:Nat):Turn P w K tg (WO K a n) [it] it (fun i h=>i≤n∧h.IsRevIter it a ((n:Int) - 1 - (i:Nat))) where
 mem:=by simp
 obj:=fun i h st b hb=>by
  have e:b=it:=by simpa using hb
  subst e
  obtain ⟨_,o,e,c,d⟩:=st
  exact ⟨o,e,fun v z=>by rw [d] at z;cases z⟩
 keep:=fun i h h' st k=>⟨st.1,st.2.at fun o e=>k it (by simp) o e⟩
 item:=by
  intro X hP hw hK hc i pins s σ H E I hf st hg
  subst hP hw hK
  obtain ⟨Jg,xs,x,hq,hx⟩:=hg
  obtain ⟨bR,rv,p,hz⟩:=I.list hq
  obtain ⟨u,hu,ru⟩:=rv.get hx
  obtain ⟨f0,f1,f2,f3,f4,f5⟩:=hf it (by simp)
  obtain ⟨_,hit⟩:=st
  have e1:(n:Int) - 1 - ((i:Nat):Int)=((n - 1 - i:Nat):Int):=by omega
  rw [e1] at hit
  refine wpAny_pyNext_rev_item hit p.isList (x:=u) (by simpa using hu) fun h' kz sb=>?_
  have e2:((n - 1 - i:Nat):Int) - 1=(n:Int) - 1 - ((i+1:Nat):Int):=by omega
  rw [e2] at kz
  have I1:Inv X pins σ H { s with heap:=h' }:=I.turned (t':=s.toks) (fun b o hb e=>(sb.2 b hb).trans e) f0 f1 f3 f4 f5
  obtain ⟨o,e,c,d⟩:=id kz
  exact ⟨u,rfl,Ku (s:={ s with heap:=h' }) e c d (by decide) ⟨x,H,I1,ru,⟨rfl,fun ys hy=>by rw [I.pO hy hq];exact hx⟩,⟨Jg,kz⟩,fun b hb=>(hf b hb).1⟩⟩
 done:=by
  intro X hP hw hK hc i pins s σ H E I hf st hg
  subst hP hw hK
  obtain ⟨f0,f1,f2,f3,f4,f5⟩:=hf it (by simp)
  obtain ⟨Jg,hit⟩:=st
  have NO:n≤i:=hg
  have e1:(n:Int) - 1 - ((i:Nat):Int)=-1:=by omega
  rw [e1] at hit
  exact wpAny_pyNext_rev_end (I.ok.hd hc) hit fun h' eb=>⟨rfl,I.turned (t':=s.toks) (fun b o hb e=>eb b o hb e) f0 f1 f3 f4 f5⟩
 self:=fun A i s Q E st h=>wpAny_pyIter_revIter st.2 h
def WQ (K:aa) (ta:TA):TI:=fun σ H R=>ta σ H fun vs H1=>∃(a:Addr) (xs:List V),vs=[.ref a]∧eS K H1 a xs∧R (WO K a xs.length) H1
section
variable {X:Cx} {tg:Expr}
theorem D4 {e:Expr} {ta:TA} {p pos:Pos} (hg:Gl X "reversed") (hm:X.mg "reversed" = none) (ha:PA X [e] ta) (hs:starEach [e] X.env=[(false,eval e X.env)]:=by rfl):PI X tg (.Call (.Name "reversed" p) [e] [] pos) (WQ X.K ta):=by
 intro pins s σ H R I h
 refine Call_ (oo I hg hm pV (PyProof.Rows.callWith_type1 (gX (ha pos pins s σ H _ I h) fun us s1 ⟨vs,H1,I1,r1,q1⟩=>?_) hs rfl))
 obtain ⟨a,xs,e,hq,q⟩:=q1
 subst e
 cases r1 with
 | cons r rr =>
  cases rr
  cases r
  obtain ⟨bR,rv,p',hz⟩:=I1.list hq
  have hl:=rv.length
  have e1:((bR.toArray.size:Nat):Int) - 1=(xs.length:Int) - 1 - ((0:Nat):Int):=by simp only [aH];omega
  refine call_reversed_list p'.isList (wpAny_pyIter_revIter (l:=a) (i:=((bR.toArray.size:Nat):Int) - 1) ⟨_,Heap.get?_push_size _ rfl,rfl,rfl⟩ ?_)
  refine Qz (tk:=s1.toks) I1 _ (KW a _ xs.length) ⟨c8 _,?_⟩ q
  rw [←e1]
  exact ⟨_,Heap.get?_push_size _ rfl,rfl,rfl⟩
end
section
variable {prog:Program} {w:World} {A:Around} {E:Value→Shared→Prop} {s:Shared}
end
section
variable {X:Cx} {pins:List (Addr×Obj)} {σ:St} {H:Hp} {s:Shared} {d:Addr} {o:Obj}
end
section
variable {P:Program} {w:World} {K:aa} {tg:Expr} {d:Addr} {o:Obj} {es:Array DictEntry} {ep:Nat}
end
section
variable {X:Cx} {tg e:Expr} {td:TE} {apos jM:Pos}
end
def WR (K:aa) (a:Addr):It :=
 ⟨fun i H=>∃(xs:List V) (x:V),eS K H a xs∧xs[i]?=some x,fun i H v H'=>∃T x,v=.ref T∧H T=none∧H'=upd H T (.tup [.int (i:Nat),x])∧∀xs,eS K H a xs→xs[i]?=some x,fun i H=>∃xs:List V,eS K H a xs∧xs.length≤i⟩
theorem Jh {P:Program} {w:World} {K:aa} {elts:List Expr} {kk:Nat} {uj:Pos} (a e it:Addr) :
  Turn P w K (.Tuple elts kk uj) (WR K a) [e,it] e (fun i h=>(∃old,IsEnum h e it ((i:Nat):Int) old)∧h.IsListIter it a i∧e≠it) where
 mem:=by simp
 obj:=fun i h st b hb=>by
  obtain ⟨⟨old,he⟩,⟨o,ho,hc,hd⟩,_⟩:=st
  have e':b=e∨b=it:=by simpa using hb
  rcases e' with z|z
  ·rw [z];exact ⟨_,he,fun v q=>nomatch q⟩
  ·rw [z];exact ⟨o,ho,fun v q=>by rw [hd] at q;cases q⟩
 keep:=fun i h h' st k=>let ⟨⟨old,he⟩,hi,kI⟩:=st;⟨⟨old,k e (by simp) _ he⟩,hi.at fun o q=>k it (by simp) o q,kI⟩
 item:=by
  intro X hP hw hK hc i pins s σ H E I hf st hg
  subst hP hw hK
  obtain ⟨⟨old,he⟩,hit,kI⟩:=st
  obtain ⟨xs,x,hq,hx⟩:=hg
  obtain ⟨bR,rv,p,hz⟩:=I.list hq
  obtain ⟨u,hu,ru⟩:=rv.get hx
  have Yo:e < s.heap.objs.size:=Heap.lt_size he
  have ZW:it < s.heap.objs.size:=by obtain ⟨_,q,_⟩:=hit;exact Heap.lt_size q
  refine wpAny_pyNext_enum_item he hit p.isList (x:=u) (by simpa using hu) kI fun h' ho WS hT hsz hk=>?_
  refine ⟨_,rfl,wpAny_letOwnedTupleGo_enum (s:={ s with heap:=h',toks:=s.toks+1 }) ho fun OZ ZX sb=>?_⟩
  have WT:OZ.get? s.heap.objs.size=some { cls:=.type "tuple",data:=.seq #[.int i s.toks,u] }:=(sb.2 _ (rC Yo)).trans hT
  have new:i6 X.prog X.w (upd H s.heap.objs.size (.tup [.int (i:Nat),x])) OZ s.heap.objs.size (.tup [.int (i:Nat),x]) :=
   ⟨by show 2≤sizeLine;decide,[.int i s.toks,u],.cons ⟨_,rfl⟩ (.cons ru .nil),⟨_,WT,rfl,_,rfl⟩⟩
  have I1:Inv X pins σ (upd H s.heap.objs.size (.tup [.int (i:Nat),x])) { s with heap:=OZ,toks:=s.toks+1 } :=
   I.uu (ch:=[e,it]) (fun b ob hb q=>(sb.2 b (fun z=>hb (by simp [z]))).trans (hk b ob (fun z=>hb (by simp [z])) (fun z=>hb (by simp [z])) q)) hf (aW _) new
  refine ⟨.ref s.heap.objs.size,_,I1,rfl,⟨_,x,rfl,I.fR.fresh (aW _),rfl,fun ys hy=>by rw [I.pO hy hq];exact hx⟩,⟨⟨u,?_⟩,WS.at fun o q=>(sb.2 it (Ne.symm kI)).trans q,kI⟩,fun b hb=>?_⟩
  ·have e1:((i+1:Nat):Int)=(i:Int)+1:=by omega
   rw [e1];exact ZX
  ·have RV:b < s.heap.objs.size:=by
    have e':b=e∨b=it:=by simpa using hb
    rcases e' with z|z
    ·rw [z];exact Yo
    ·rw [z];exact ZW
   rw [aM (cF RV)]
   exact (hf b hb).1
 done:=by
  intro X hP hw hK hc i pins s σ H E I hf st hg
  subst hP hw hK
  obtain ⟨⟨old,he⟩,hit,kI⟩:=st
  obtain ⟨xs,hq,hx⟩:=hg
  obtain ⟨bR,rv,p,hz⟩:=I.list hq
  obtain ⟨f0,f1,f2,f3,f4,f5⟩:=hf it (by simp)
  have hl:=rv.length
  exact wpAny_pyNext_enum_end (I.ok.hd hc) he hit p.isList (by simp;omega) fun h' eb=>⟨rfl,I.turned (t':=s.toks) (fun b o hb q=>eb b o hb q) f0 f1 f3 f4 f5⟩
 self:=fun A i s Q E st h=>let ⟨⟨_,he⟩,_⟩:=st;wpAny_pyIter_enum he h
def Ta (K:aa) (ta:TA):TI:=fun σ H R=>ta σ H fun vs H1=>∃a xs,vs=[.ref a]∧eS K H1 a xs∧R (WR K a) H1
theorem NP {X:Cx} {e:Expr} {ta:TA} {p pos uj:Pos} {elts:List Expr} {kk:Nat} (hg:Gl X "enumerate") (hm:X.mg "enumerate" = none) (ha:PA X [e] ta) (hs:starEach [e] X.env=[(false,eval e X.env)]:=by rfl) :
  PI X (.Tuple elts kk uj) (.Call (.Name "enumerate" p) [e] [] pos) (Ta X.K ta):=by
 intro pins s σ H R I h
 refine Call_ (oo I hg hm boot_enumerate (PyProof.Rows.callWith_type1 (gX (ha pos pins s σ H _ I h) fun us s1 ⟨vs,H1,I1,r1,q1⟩=>?_) hs rfl))
 obtain ⟨a,xs,ex,hq,q⟩:=q1
 subst ex
 cases r1 with
 | cons r rr =>
  cases rr
  cases r
  obtain ⟨bR,rv,p',hz⟩:=I1.list hq
  refine call_enumerate_list p'.isList fun h' he hit hsz hk=>wpAny_pyIter_enum he ?_
  have I2:Inv X pins σ H1 { s1 with heap:=h' }:=I1.kept (t':=s1.toks) hk
  refine ⟨s1.heap.objs.size+1,[s1.heap.objs.size+1,s1.heap.objs.size],_,_,H1,rfl,I2,Jh a (s1.heap.objs.size+1) s1.heap.objs.size,⟨⟨.none,he⟩,hit,Nat.succ_ne_self _⟩,fun b hb=>?_,q⟩
  have e':b=s1.heap.objs.size+1∨b=s1.heap.objs.size:=by simpa using hb
  have hle:s1.heap.objs.size≤b:=by
   rcases e' with z|z
   ·rw [z];exact lT _ _
   ·rw [z];exact aW _
  exact I1.FQ hle (I1.fR.fresh hle)
theorem Ji:bootBuiltins "zip" = some (.type "zip"):=by decide +kernel
def WU (K:aa) (a b:Addr):It :=
 ⟨fun i H=>∃(xs ys:List V) (x y:V),eS K H a xs∧eS K H b ys∧xs[i]?=some x∧ys[i]?=some y,
  fun i H v H'=>∃T x y,v=.ref T∧H T=none∧H'=upd H T (.tup [x,y])∧(∀xs,eS K H a xs→xs[i]?=some x)∧∀ys,eS K H b ys→ys[i]?=some y,
  fun i H=>∃xs ys:List V,eS K H a xs∧eS K H b ys∧(xs.length≤i∨ys.length≤i)⟩
theorem KY {P:Program} {w:World} {K:aa} {elts:List Expr} {kk:Nat} {uj:Pos} {a b z TI TO i1 i2:Addr} (D:ZipApart z TI TO i1 i2 a b) :
  Turn P w K (.Tuple elts kk uj) (WU K a b) [z,TI,TO,i1,i2] z (fun i h=>IsZip h z TI TO .none∧IsPair h TI (.ref i1) (.ref i2)∧(∃x y,IsPair h TO x y)∧h.IsListIter i1 a i∧h.IsListIter i2 b i) where
 mem:=by simp
 obj:=fun i h st c hc=>by
  obtain ⟨hz,KZ,⟨x,y,MX⟩,⟨o1,e1,_,d1⟩,⟨o2,e2,_,d2⟩⟩:=st
  have e':c=z∨c=TI∨c=TO∨c=i1∨c=i2:=by simpa using hc
  rcases e' with q|q|q|q|q
  ·rw [q];exact ⟨_,hz,fun v q=>nomatch q⟩
  ·rw [q];exact ⟨_,KZ,fun v q=>nomatch q⟩
  ·rw [q];exact ⟨_,MX,fun v q=>nomatch q⟩
  ·rw [q];exact ⟨o1,e1,fun v q=>by rw [d1] at q;cases q⟩
  ·rw [q];exact ⟨o2,e2,fun v q=>by rw [d2] at q;cases q⟩
 keep:=fun i h h' st k=>by
  obtain ⟨hz,KZ,⟨x,y,MX⟩,h1,h2⟩:=st
  exact ⟨k z (by simp) _ hz,k TI (by simp) _ KZ,⟨x,y,k TO (by simp) _ MX⟩,h1.at fun o q=>k i1 (by simp) o q,h2.at fun o q=>k i2 (by simp) o q⟩
 item:=by
  intro X hP hw hK hc i pins s σ H E I hf st hg
  subst hP hw hK
  obtain ⟨hz,KZ,⟨x0,y0,MX⟩,h1,h2⟩:=st
  obtain ⟨xs,ys,x,y,RW,RX,hx,hy⟩:=hg
  obtain ⟨bR,rv,p,_⟩:=I.list RW
  obtain ⟨xK,Vj,p2,_⟩:=I.list RX
  obtain ⟨u,hu,ru⟩:=rv.get hx
  obtain ⟨u2,ZY,ZZ⟩:=Vj.get hy
  have Yp:z < s.heap.objs.size:=Heap.lt_size hz
  refine wpAny_pyNext_zip_item D hz KZ MX h1 h2 p.isList p2.isList (x:=u) (y:=u2) (by simpa using hu) (by simpa using ZY) fun h' z' Z0 Z1 Z2 hT hsz hk=>?_
  refine ⟨_,rfl,wpAny_letOwnedTupleGo_zip (s:={ s with heap:=h' }) z' fun OZ Z3 sb=>?_⟩
  have WT:OZ.get? s.heap.objs.size=some { cls:=.type "tuple",data:=.seq #[u,u2] }:=(sb.2 _ (rC Yp)).trans hT
  have new:i6 X.prog X.w (upd H s.heap.objs.size (.tup [x,y])) OZ s.heap.objs.size (.tup [x,y]) :=
   ⟨by show 2≤sizeLine;decide,[u,u2],.cons ru (.cons ZZ .nil),⟨_,WT,rfl,_,rfl⟩⟩
  have I1:Inv X pins σ (upd H s.heap.objs.size (.tup [x,y])) { s with heap:=OZ } :=
   I.uu (t':=s.toks) (ch:=[z,TI,TO,i1,i2]) (fun c o hb q=>(sb.2 c (fun q'=>hb (by simp [q']))).trans (hk c o (fun q'=>hb (by simp [q'])) (fun q'=>hb (by simp [q'])) (fun q'=>hb (by simp [q'])) (fun q'=>hb (by simp [q'])) q)) hf (aW _) new
  refine ⟨.ref s.heap.objs.size,_,I1,rfl,⟨_,x,y,rfl,I.fR.fresh (aW _),rfl,fun l hl=>by rw [I.pO hl RW];exact hx,fun l hl=>by rw [I.pO hl RX];exact hy⟩,⟨Z3,?_,⟨u,u2,?_⟩,?_,?_⟩,fun c J5=>?_⟩
  ·exact (sb.2 _ D.TIz).trans (hk _ _ D.TIz D.TITO D.TIi1 D.TIi2 KZ)
  ·exact (sb.2 _ D.TOz).trans Z0
  ·exact Z1.at fun o q=>(sb.2 _ D.i1z).trans q
  ·exact Z2.at fun o q=>(sb.2 _ D.i2z).trans q
  ·have DO:c < s.heap.objs.size:=by
    have e':c=z∨c=TI∨c=TO∨c=i1∨c=i2:=by simpa using J5
    rcases e' with q|q|q|q|q
    ·rw [q];exact Yp
    ·rw [q];exact Heap.lt_size KZ
    ·rw [q];exact Heap.lt_size MX
    ·rw [q];obtain ⟨_,e1,_⟩:=h1;exact Heap.lt_size e1
    ·rw [q];obtain ⟨_,e2,_⟩:=h2;exact Heap.lt_size e2
   rw [aM (cF DO)]
   exact (hf c J5).1
 done:=by
  intro X hP hw hK hc i pins s σ H E I hf st hg
  subst hP hw hK
  obtain ⟨hz,KZ,⟨x0,y0,MX⟩,h1,h2⟩:=st
  obtain ⟨xs,ys,RW,RX,QA⟩:=hg
  obtain ⟨bR,rv,p,_⟩:=I.list RW
  obtain ⟨xK,Vj,p2,_⟩:=I.list RX
  have l1:=rv.length
  have l2:=Vj.length
  have he:bR.toArray[i]?=none∨xK.toArray[i]?=none:=by
   rcases QA with q|q
   ·exact .inl (by simp;omega)
   ·exact .inr (by simp;omega)
  exact wpAny_pyNext_zip_end (I.ok.hd hc) D hz KZ MX h1 h2 p.isList p2.isList he fun h' hk=>⟨rfl,I.NN (t':=s.toks) (ch:=[z,TI,TO,i1,i2]) (fun c o hb q =>
   hk c o (fun q'=>hb (by simp [q'])) (fun q'=>hb (by simp [q'])) (fun q'=>hb (by simp [q'])) (fun q'=>hb (by simp [q'])) q) hf⟩
 self:=fun A i s Q E st h=>wpAny_pyIter_zip st.1 h
def WV (K:aa) (ta:TA):TI:=fun σ H R=>ta σ H fun vs H1=>∃a b xs ys,vs=[.ref a,.ref b]∧eS K H1 a xs∧eS K H1 b ys∧R (WU K a b) H1
theorem QB {X:Cx} {e e2:Expr} {ta:TA} {p pos uj:Pos} {elts:List Expr} {kk:Nat} (hg:Gl X "zip") (hm:X.mg "zip" = none) (ha:PA X [e,e2] ta)
  (hs:starEach [e,e2] X.env=(false,eval e X.env)::starEach [e2] X.env:=by rfl) (Jc:(backTo pos (starEach [e2] X.env)).any (·.1)=false:=by rfl) :
  PI X (.Tuple elts kk uj) (.Call (.Name "zip" p) [e,e2] [] pos) (WV X.K ta):=by
 intro pins s σ H R I h
 refine Call_ (oo I hg hm Ji (PyProof.Rows.callWith_type1 (gX (ha pos pins s σ H _ I h) fun us s1 ⟨vs,H1,I1,r1,q1⟩=>?_) hs Jc))
 obtain ⟨a,b,xs,ys,ex,RW,RX,q⟩:=q1
 subst ex
 cases r1 with
 | cons r rr =>
  cases rr with
  | cons r' rr =>
   cases rr
   cases r
   cases r'
   obtain ⟨bR,rv,p1,_⟩:=I1.list RW
   obtain ⟨xK,Vj,p2,_⟩:=I1.list RX
   have la:a < s1.heap.objs.size:=p1.lt
   have lb:b < s1.heap.objs.size:=p2.lt
   refine call_zip_2 p1.isList p2.isList fun h' hz KZ MX h1 h2 hsz hk=>wpAny_pyIter_zip hz ?_
   have I2:Inv X pins σ H1 { s1 with heap:=h' }:=I1.kept (t':=s1.toks) hk
   refine ⟨s1.heap.objs.size+4,[s1.heap.objs.size+4,s1.heap.objs.size+2,s1.heap.objs.size+3,s1.heap.objs.size,s1.heap.objs.size+1],_,_,H1,rfl,I2,KY (PySem.W.ktu_apart s1.heap.objs.size a b la lb),⟨hz,KZ,⟨_,_,MX⟩,h1,h2⟩,fun c J5=>?_,q⟩
   have e':c=s1.heap.objs.size+4∨c=s1.heap.objs.size+2∨c=s1.heap.objs.size+3∨c=s1.heap.objs.size∨c=s1.heap.objs.size+1:=by simpa using J5
   have hle:s1.heap.objs.size≤c:=by
    rcases e' with z|z|z|z|z
    ·rw [z];exact lT _ _
    ·rw [z];exact lT _ _
    ·rw [z];exact lT _ _
    ·rw [z];exact aW _
    ·rw [z];exact lT _ _
   exact I1.FQ hle (I1.fR.fresh hle)
end L2
section
namespace Bits
open PySem PyProof.Rows
theorem D5 {x y:Int} (hx:0≤x) (hy:0≤y):Builtin.bitOr x y=((x.toNat ||| y.toNat:Nat):Int):=by
 have e:=nat_or_add_and x.toNat y.toNat
 rw [bitOr_and,bitAnd_pp hx hy]
 omega
end Bits
end
section
namespace TL
open PySem PySem.Builtin PySem.Builtin.Str PySem.StrLaws
abbrev tl (x:Str):List Nat:=x.cps.toList
def pre (S l:List Nat):Bool:=l.take S.length == S
def par (S:List Nat):List Nat→List Nat→Option (List Nat×List Nat)
 | _,[]=>none
 | acc,c::r=>if pre S (c::r)=true then some (acc,(c::r).drop S.length) else par S (acc++[c]) r
end TL
end
namespace L2
open PySem PySem.Spec PyProof.Rows
section
variable {X:Cx} {pins:List (Addr×Obj)} {σ:St} {H:Hp} {s:Shared} {Q:VK}
end
section
variable {X:Cx}
end
section
variable {X:Cx} {o e:Expr} {to te:TE}
end
end L2
namespace L2
open PySem PySem.Spec PyProof.Rows
section
variable {X:Cx}
end
end L2
namespace Att
open PySem PySem.W PySem.Calls PyProof.Rows
section
variable {prog:Program} {w:World} {A:Around} {E:Value→Shared→Prop} {s:Shared} {K:Frag}
end
end Att
namespace L2
open PySem PySem.Spec PyProof.Rows
end L2
namespace L2
open PySem PySem.Spec PyProof.Rows
end L2
namespace L2
open PySem PySem.Spec PyProof.Rows
def inClass (s:Stmt) (j:Nat):Stmt:=match s with
 | .ClassDef _ _ _ body _ _ _ _ _ _ _=>body.getD j (.Pass ⟨0,0,0,0⟩)
 | _=>.Pass ⟨0,0,0,0⟩
def k7 (s:Stmt):Arguments:=match s with
 | .FunctionDef _ a _ _ _ _ _ _ _ _=>a
 | _=>{ posonlyargs:=[],args:=[],vararg:=none,kwonlyargs:=[],kw_defaults:=[],kwarg:=none,defaults:=[] }
def a_ (s:Stmt):List Stmt:=match s with
 | .FunctionDef _ _ b _ _ _ _ _ _ _=>b
 | _=>[]
def ai (s:Stmt):Scope:=match s with
 | .FunctionDef _ _ _ _ _ _ sc _ _ _=>sc
 | _=>{ kind:=.function,names:=[],isGenerator:=false,isCoroutine:=false }
abbrev ia:Ho:=fun _ _ _ _ _ _=>False
abbrev E0:XK:=fun _ _ _=>False
theorem K0 {X:Cx}:Passes ia X E0:=fun _ _ _ _ _ _ _ h=>h.elim
structure pG (K:aa) (x qual:Str) (st:Stmt) (f:Addr) (fd:FuncData):Prop where
 ex:∃(oc:Value) (od:Option Addr) (kV doc pm:Value) (an:Option Addr) (eU ct:Value) (zO:Array (Option Value)),
  fd=e8 x qual (k7 st) (a_ st) (ai st) .none kV doc pm an eU ct∧K.lookup f=some ⟨oc,od,.func fd,zO⟩∧iy K eU qual=true
 kp:dt K (.ref f)=true
section
variable {P:Program} {w:World} {K:aa} {mg:Str→Option Value} {base:Heap}
theorem pG.ok {x qual:Str} {st:Stmt} {f:Addr} {fd:FuncData} {N ps:List Str} {k:Nat} {sp:Sp} (F:pG K x qual st f fd) (S:aR N ps (ai st)) (len:∀vs H Q E,sp vs H Q E→vs.length=ps.length)
  (KH:∀(eU:Value) (A:Around) (outer:List Env) (s:Shared) (H:Hp) (vs:List V) (Q:VK) (E:XK),jI k (A.deeper (envOfC qual (ai st) s.heap.objs.size f eU))→sp vs H Q E →
   ∃t,vO (gY ia P w K mg base N qual (ai st) f eU A outer s H E).qC (a_ st) t∧t { nx:=fun _ H'=>Q .gg H',rt:=Q } (start N vs) H):eI P w K mg base ia (k+1) f fd ps sp:=by
 obtain ⟨oc,od,kV,doc,pm,an,eU,ct,zO,rfl,lk,Kj⟩:=F.ex
 refine SQ lk Kj S len fun A outer s H vs Q E hr MU=>?_
 obtain ⟨t,h,q⟩:=KH eU A outer s H vs Q E hr MU
 exact ⟨t,h.qC,q⟩
theorem pG.binds {x qual:Str} {st:Stmt} {f:Addr} {fd:FuncData} {ps:List Str} (F:pG K x qual st f fd)
  (h:∀(kV doc pm:Value) (an:Option Addr) (eU ct:Value) (us:List Value),us.length=ps.length→bindArgs (e8 x qual (k7 st) (a_ st) (ai st) .none kV doc pm an eU ct) ⟨us,[]⟩=pure (ps.zip us)):Binds K fd ps []:=by
 obtain ⟨oc,od,kV,doc,pm,an,eU,ct,zO,rfl,lk,Kj⟩:=F.ex
 exact .all (h kV doc pm an eU ct)
theorem B_ {x qual:Str} {st:Stmt} {f:Addr} {oc:Value} {od an:Option Addr} {zO:Array (Option Value)} {kV doc pm eU ct:Value} (l:K.lookup f=some ⟨oc,od,.func (e8 x qual (k7 st) (a_ st) (ai st) .none kV doc pm an eU ct),zO⟩)
  (c:iy K eU qual=true) (k:dt K (.ref f)=true):pG K x qual st f (e8 x qual (k7 st) (a_ st) (ai st) .none kV doc pm an eU ct):=⟨⟨oc,od,kV,doc,pm,an,eU,ct,zO,rfl,l,c⟩,k⟩
end
section
variable {X:Cx}
theorem pv (i:Nat) {x:Str} {pos:Pos} (hN:X.N[i]?=some x:=by rfl) (hv:OM X.env.scope x:=by first|exact Or.inl rfl|exact Or.inr (Or.inl rfl)|exact Or.inr (Or.inr rfl)) (hd:(x == ("__debug__" : Str))=false:=by decide)
  (Kj:(x == ("__classdict__" : Str))=false:=by decide):PE X (.Name x pos) (rQ i):=BZ hN hv hd Kj
end
def bT (H H':Hp):Prop:=∀b o,H b=some o→H' b=some o
theorem bT.trans {H H1 H2:Hp} (a:bT H H1) (b:bT H1 H2):bT H H2:=fun c o h=>b c o (a c o h)
theorem bT.free {H H':Hp} (e:bT H H') {l:Addr} (h:H' l=Option.none):H l=Option.none:=by
 cases q:H l with
 | none=>rfl
 | some o =>
  rw [e l o q] at h
  cases h
theorem bT.seq {K:aa} {H H':Hp} {a:Addr} {xs:List V} (e:bT H H') (h:eS K H a xs):eS K H' a xs:=by
 rcases h with (h|⟨o,h⟩)|h
 ·exact .inl (.inl (e _ _ h))
 ·exact .inl (.inr ⟨o,e _ _ h⟩)
 ·exact .inr h
section
variable {κ:Type} [DecidableEq κ]
end
end L2
section
set_option Elab.async false
set_option linter.all false
set_option maxRecDepth 100000
set_option maxHeartbeats 2000000
namespace L2
open PySem PySem.Spec PyProof.Rows
open PySem.W (WData Codec OpenSpec Well WellAll ReadsW ReadsAllW)
mutual
inductive Dw (K:aa) (H:Hp):V→WData→Prop
 | gg:Dw K H .gg .none
 | bl (b:Bool):Dw K H (.bl b) (.bool b)
 | int (i:Int):Dw K H (.int i) (.int i)
 | str (x:Str):Dw K H (.str x) (.str x)
 | FJ (b:Array UInt8):Dw K H (.FJ b) (.bytes b.toList)
 | lst {a:Addr} {xs:List V} {ds:List WData}:eS K H a xs→o9 K H xs ds→Dw K H (.ref a) (.list ds)
 | tup {a:Addr} {xs:List V} {ds:List WData}:xG K H a xs→o9 K H xs ds→Dw K H (.ref a) (.tuple ds)
inductive o9 (K:aa) (H:Hp):List V→List WData→Prop
 | nil:o9 K H [] []
 | cons {v:V} {vs:List V} {d:WData} {ds:List WData}:Dw K H v d→o9 K H vs ds→o9 K H (v::vs) (d::ds)
end
theorem HA {K:aa} {H:Hp}:∀ns:List Int,o9 K H (ns.map V.int) (ns.map WData.int)
 | []=>.nil
 | n::r=>.cons (.int n) (HA r)
theorem HB {K:aa} {H:Hp}:∀(ns:List Int) (xs:List V),o9 K H xs (ns.map WData.int)→xs=ns.map V.int
 | [],xs,h=>by
  cases h
  rfl
 | n::r,xs,h=>by
  cases h with
  | cons h1 h2 =>
   cases h1
   rw [HB r _ h2]<;>rfl
section
variable {P:Program} {w:World} {K:aa} {H:Hp} {h:Heap} {R:MK} {cl:Str→Option Addr}
theorem QC {a:Addr} {xs:List V} (fR:sx P w H h) (KX:K.In h) (q:eS K H a xs):∃(bR:List Value) (o:Obj) (n:Nat),Vals xs bR∧h.get? a=some o∧o.cls=.type "list" ∧ o.data=.seq bR.toArray n:=by
 rcases q with q|⟨o,bR,n,e,hc,_,hd,_,hv⟩
 ·obtain ⟨_,bR,n,hv,e⟩:=(show i6 P w H h a (.lst xs) from q.ok fR)
  exact ⟨bR,_,n,hv,e,rfl,rfl⟩
 ·exact ⟨bR.toList,o,n,hv,KX _ _ e,hc,by simp [hd]⟩
theorem QD {a:Addr} {xs:List V} (fR:sx P w H h) (KX:K.In h) (q:xG K H a xs):∃(bR:List Value) (o:Obj) (n:Nat),Vals xs bR∧h.get? a=some o∧o.cls=.type "tuple" ∧ o.data=.seq bR.toArray n:=by
 rcases q with q|⟨o,bR,n,e,hc,hd,_,hv⟩
 ·obtain ⟨_,bR,hv,o,e,hc,n,hd⟩:=(show i6 P w H h a (.tup xs) from q.ok fR)
  exact ⟨bR,o,n,hv,e,hc,hd⟩
 ·exact ⟨bR.toList,o,n,hv,KX _ _ e,hc,by simp [hd]⟩
mutual
theorem Dw.reads (fR:sx P w H h) (KX:K.In h):∀(d:WData) (v:V) (u:Value),Dw K H v d→RelV v u→∃as,ReadsW R cl h u d as
 | .none,_,_,x,r=>by
  cases x
  cases r
  exact ⟨_,ReadsW.none⟩
 | .bool b,_,_,x,r=>by
  cases x
  cases r
  exact ⟨_,ReadsW.bool b⟩
 | .int i,_,_,x,r=>by
  cases x
  obtain ⟨t,rfl⟩:=r
  exact ⟨_,ReadsW.int i t⟩
 | .str s,_,_,x,r=>by
  cases x
  obtain ⟨t,rfl⟩:=r
  exact ⟨_,ReadsW.str s t⟩
 | .bytes b,_,_,x,r=>by
  cases x
  obtain ⟨t,rfl⟩:=r
  exact ⟨_,ReadsW.bytes _ t⟩
 | .list ds,_,_,x,r=>by
  cases x with
  | lst hs ha =>
   cases r
   obtain ⟨bR,o,n,rv,ho,hc,hd⟩:=QC fR KX hs
   obtain ⟨as,hr⟩:=Dw.readsAll fR KX ds _ bR ha rv
   exact ⟨_,ReadsW.list ho hc hd hr⟩
 | .tuple ds,_,_,x,r=>by
  cases x with
  | tup hs ha =>
   cases r
   obtain ⟨bR,o,n,rv,ho,hc,hd⟩:=QD fR KX hs
   obtain ⟨as,hr⟩:=Dw.readsAll fR KX ds _ bR ha rv
   exact ⟨_,ReadsW.tuple ho hc hd hr⟩
 | .float _,_,_,x,_=>by cases x
 | .dict _,_,_,x,_=>by cases x
 | .bytearray _,_,_,x,_=>by cases x
 | .set _,_,_,x,_=>by cases x
 | .frozenset _,_,_,x,_=>by cases x
 | .obj _ _,_,_,x,_=>by cases x
theorem Dw.readsAll (fR:sx P w H h) (KX:K.In h):∀(ds:List WData) (vs:List V) (us:List Value),o9 K H vs ds→Vals vs us→∃as,ReadsAllW R cl h us ds as
 | [],_,_,x,r=>by
  cases x
  cases r
  exact ⟨_,ReadsAllW.nil⟩
 | d::ds,_,_,x,r=>by
  cases x with
  | cons h1 h2 =>
   cases r with
   | cons r1 r2 =>
    obtain ⟨as,q1⟩:=Dw.reads fR KX d _ _ h1 r1
    obtain ⟨bs,q2⟩:=Dw.readsAll fR KX ds _ _ h2 r2
    exact ⟨_,ReadsAllW.cons q1 q2⟩
end
end
mutual
def HC:WData→Bool
 | .none=>true
 | .bool _=>true
 | .int _=>true
 | .str _=>true
 | .bytes _=>true
 | .list xs=>vQ xs
 | .tuple xs=>vQ xs
 | _=>false
def vQ:List WData→Bool
 | []=>true
 | x::r=>HC x&&vQ r
end
theorem D6 {α:Type} {f:α→WData} (h:∀a,HC (f a)=true):∀l:List α,vQ (l.map f)=true
 | []=>rfl
 | x::r=>by
  show (HC (f x)&&vQ (r.map f))=true
  rw [h x,D6 h r]<;>rfl
theorem pW:∀(c:Codec) (a:c.denote),HC (c.enc a)=true
 | .unit,_=>rfl
 | .bool,_=>rfl
 | .int _ _,_=>rfl
 | .nat _ _,_=>rfl
 | .u8,_=>rfl
 | .bytes _ _,_=>rfl
 | .text _ _ _ _,_=>rfl
 | .list _ _ c,a=>D6 (fun x=>pW c x) a
 | .pair c d,a=>by
  show (HC (c.enc a.1)&&(HC (d.enc a.2)&&true))=true
  rw [pW c a.1,pW d a.2]<;>rfl
 | .triple c d e,a=>by
  show (HC (c.enc a.1)&&(HC (d.enc a.2.1)&&(HC (e.enc a.2.2)&&true)))=true
  rw [pW c a.1,pW d a.2.1,pW e a.2.2]<;>rfl
 | .option c,none=>rfl
 | .option c,some x=>pW c x
theorem Bf:∀(cs:List Codec) (a:Codec.denoteAll cs),vQ (Codec.encAll cs a)=true
 | [],_=>rfl
 | c::cs,a=>by
  show (HC (c.enc a.1)&&vQ (Codec.encAll cs a.2))=true
  rw [pW c a.1,Bf cs a.2]<;>rfl
theorem rT:∀{xs:List WData} {d:WData},d∈xs→d.weight≤WData.weightAll xs
 | [],d,h=>absurd h (by simp)
 | x::r,d,h=>by
  show d.weight≤x.weight+1+WData.weightAll r
  rcases aF.mp h with e|m
  ·rw [e]
   omega
  ·have z:=rT m
   omega
def toV:Value→V
 | .none=>.gg
 | .bool b=>.bl b
 | .int i _=>.int i
 | .str x _=>.str x
 | .bytes b _=>.FJ b
 | .ref a=>.ref a
 | _=>.gg
def Jj (A:List Addr):Value→Prop
 | .none=>True
 | .bool _=>True
 | .int _ _=>True
 | .str _ _=>True
 | .bytes _ _=>True
 | .ref a=>a∈A
 | _=>False
theorem Jj.mono {A B:List Addr} (h:∀a∈A,a∈B):∀{u:Value},Jj A u→Jj B u:=fun {u} x=>by
 cases u with
 | ref a=>exact h a x
 | none=>trivial
 | bool b=>trivial
 | int i t=>trivial
 | str s t=>trivial
 | bytes b t=>trivial
 | _=>exact False.elim x
theorem K1 {A:List Addr} {u:Value} (x:Jj A u):RelV (toV u) u:=by
 cases u with
 | ref a=>rfl
 | none=>rfl
 | bool b=>rfl
 | int i t=>exact ⟨t,rfl⟩
 | str s t=>exact ⟨t,rfl⟩
 | bytes b t=>exact ⟨t,rfl⟩
 | _=>exact False.elim x
theorem nT {A:List Addr}:∀{vs:List Value},(∀u∈vs,Jj A u)→Vals (vs.map toV) vs
 | [],_=>.nil
 | u::r,h=>.cons (K1 (h u (cj ..))) (nT fun x hx=>h x (bq _ hx))
def o_ (h:Heap) (A:List Addr) (a:Addr):Prop:=∃vs:List Value,vs.length≤sizeLine∧(∀u∈vs,Jj A u) ∧
 (h.get? a=some { cls:=.type "list",data:=.seq vs.toArray }∨h.get? a=some { cls:=.type "tuple",data:=.seq vs.toArray })
theorem o_.mono {h:Heap} {A B:List Addr} {a:Addr} (k:∀a∈A,a∈B) (x:o_ h A a):o_ h B a:=by
 obtain ⟨vs,h1,h2,h3⟩:=x
 exact ⟨vs,h1,fun u hu=>(h2 u hu).mono k,h3⟩
theorem mz {P:Params} {h:Heap}:∀{vs:List Value} {ds:List WData},WellAll P h vs ds→vs.length=ds.length
 | _,_,.nil=>rfl
 | _,_,.cons _ b=>by
  show _+1=_+1
  rw [mz b]
theorem Bg {P:Params} {h:Heap} {v:Value} {ds:List WData} (x:Well P h v (.list ds)):∃(a:Addr) (vs:List Value),v=.ref a∧h.get? a=some { cls:=.type "list",data:=.seq vs.toArray }∧WellAll P h vs ds:=by
 cases x with
 | list ho rb=>exact ⟨_,_,rfl,ho,rb⟩
theorem xP {P:Params} {h:Heap} {v:Value} {ds:List WData} (x:Well P h v (.tuple ds)):∃(a:Addr) (vs:List Value),v=.ref a∧h.get? a=some { cls:=.type "tuple",data:=.seq vs.toArray }∧WellAll P h vs ds:=by
 cases x with
 | tuple ho rb=>exact ⟨_,_,rfl,ho,rb⟩
theorem Bh {P:Params} {h:Heap} {us:List Value} {d:WData} {ds:List WData} (x:WellAll P h us (d::ds)):∃(v:Value) (vs:List Value),us=v::vs∧Well P h v d∧WellAll P h vs ds:=by
 cases x with
 | cons a b=>exact ⟨_,_,rfl,a,b⟩
theorem HD {n:Nat} (h:n≤1048576):n≤sizeLine:=aO h (by decide)
section
variable {P:Params} {h:Heap}
mutual
theorem K2:∀(d:WData) (v:Value),Well P h v d→HC d=true→d.weight≤1048576→∃A:List Addr,Jj A v∧∀a∈A,o_ h A a
 | .none,_,x,_,_=>by
  cases x
  exact ⟨[],trivial,fun a m=>absurd m (by simp)⟩
 | .bool b,_,x,_,_=>by
  cases x
  exact ⟨[],trivial,fun a m=>absurd m (by simp)⟩
 | .int i,_,x,_,_=>by
  cases x
  exact ⟨[],trivial,fun a m=>absurd m (by simp)⟩
 | .str s,_,x,_,_=>by
  cases x
  exact ⟨[],trivial,fun a m=>absurd m (by simp)⟩
 | .bytes b,_,x,_,_=>by
  cases x
  exact ⟨[],trivial,fun a m=>absurd m (by simp)⟩
 | .list ds,_,x,p,z=>by
  obtain ⟨a,vs,rfl,ho,rb⟩:=Bg x
  have z2:WData.weightAll ds≤1048576:=z
  obtain ⟨A,h1,h2⟩:=sP ds _ rb p fun d hd=>aO (rT hd) z2
  have k:∀b∈A,b∈a::A:=fun b hb=>bq _ hb
  refine ⟨a::A,cj ..,fun b hb=>?_⟩
  rcases aF.mp hb with e|m
  ·rw [e]
   exact ⟨vs,HD (by rw [mz rb];exact aO (zM ds) z2),fun u hu=>(h1 u hu).mono k,.inl ho⟩
  ·exact (h2 b m).mono k
 | .tuple ds,_,x,p,z=>by
  obtain ⟨a,vs,rfl,ho,rb⟩:=xP x
  have z2:WData.weightAll ds≤1048576:=z
  obtain ⟨A,h1,h2⟩:=sP ds _ rb p fun d hd=>aO (rT hd) z2
  have k:∀b∈A,b∈a::A:=fun b hb=>bq _ hb
  refine ⟨a::A,cj ..,fun b hb=>?_⟩
  rcases aF.mp hb with e|m
  ·rw [e]
   exact ⟨vs,HD (by rw [mz rb];exact aO (zM ds) z2),fun u hu=>(h1 u hu).mono k,.inr ho⟩
  ·exact (h2 b m).mono k
 | .float _,_,_,p,_=>cR (show false=true from p)
 | .dict _,_,_,p,_=>cR (show false=true from p)
 | .bytearray _,_,_,p,_=>cR (show false=true from p)
 | .set _,_,_,p,_=>cR (show false=true from p)
 | .frozenset _,_,_,p,_=>cR (show false=true from p)
 | .obj _ _,_,_,p,_=>cR (show false=true from p)
theorem sP:∀(ds:List WData) (vs:List Value),WellAll P h vs ds→vQ ds=true→(∀d∈ds,d.weight≤1048576)→∃A:List Addr,(∀u∈vs,Jj A u)∧∀a∈A,o_ h A a
 | [],_,x,_,_=>by
  cases x
  exact ⟨[],fun u m=>absurd m (by simp),fun a m=>absurd m (by simp)⟩
 | d::ds,_,x,p,z=>by
  obtain ⟨v,vs,rfl,x1,x2⟩:=Bh x
  have q:HC d=true∧vQ ds=true:=J_.mp p
  obtain ⟨A,a1,a2⟩:=K2 d v x1 q.1 (z d (cj ..))
  obtain ⟨B,b1,b2⟩:=sP ds vs x2 q.2 fun e he=>z e (bq _ he)
  have kA:∀b∈A,b∈A++B:=fun b hb=>bE.mpr (.inl hb)
  have kB:∀b∈B,b∈A++B:=fun b hb=>bE.mpr (.inr hb)
  refine ⟨A++B,fun u hu=>?_,fun b hb=>?_⟩
  ·rcases aF.mp hu with e|m
   ·rw [e]
    exact a1.mono kA
   ·exact (b1 u m).mono kB
  ·rcases bE.mp hb with m|m
   ·exact (a2 b m).mono kA
   ·exact (b2 b m).mono kB
end
end
def NQ (o:Obj):Option HO:=match o.data with
 | .seq vs _=>if (o.cls == Value.type "list")=true then some (.BW o (.lst (vs.toList.map toV))) else some (.BW o (.tup (vs.toList.map toV)))
 | _=>none
def oq (K:aa) (h:Heap) (A:List Addr):Hp:=fun b=>if b∈A then (if (K.lookup b).isNone=true then (h.get? b).bind NQ else none) else none
def D7 (H:Hp):Prop:=∀b,H b=none∨∃o u,H b=some (.BW o u)
theorem D8 (vs:List Value):NQ { cls:=.type "list",data:=.seq vs.toArray }=some (.BW { cls:=.type "list",data:=.seq vs.toArray } (.lst (vs.map toV))):=by
 show (if (Value.type "list" == Value.type "list")=true then some (HO.BW { cls:=.type "list",data:=.seq vs.toArray } (.lst (vs.toArray.toList.map toV))) else some (HO.BW { cls:=.type "list",data:=.seq vs.toArray } (.tup (vs.toArray.toList.map toV))))=_
 rw [if_pos (beq_self_eq_true _)]
theorem D9 (vs:List Value):NQ { cls:=.type "tuple",data:=.seq vs.toArray }=some (.BW { cls:=.type "tuple",data:=.seq vs.toArray } (.tup (vs.map toV))):=by
 show (if (Value.type "tuple" == Value.type "list")=true then some (HO.BW { cls:=.type "tuple",data:=.seq vs.toArray } (.lst (vs.toArray.toList.map toV))) else some (HO.BW { cls:=.type "tuple",data:=.seq vs.toArray } (.tup (vs.toArray.toList.map toV))))=_
 rw [if_neg (by decide)]
section
variable {P:Program} {w:World} {K:aa} {h:Heap} {A:List Addr}
theorem wQ {b:Addr} {o:Obj} (hb:b∈A) (hk:K.lookup b=none) (e:h.get? b=some o):oq K h A b=NQ o:=by
 unfold oq
 rw [if_pos hb,hk,if_pos (show (none:Option Obj).isNone=true from rfl),e]<;>rfl
theorem NR {b:Addr} {u:HO} (q:oq K h A b=some u):b∈A∧K.lookup b=none:=by
 unfold oq at q
 by_cases hb:b∈A
 ·rw [if_pos hb] at q
  cases hk:K.lookup b with
  | none=>exact ⟨hb,rfl⟩
  | some o =>
   rw [hk,if_neg (by simp)] at q
   cases q
 ·rw [if_neg hb] at q
  cases q
theorem wR (ar:∀a∈A,o_ h A a) {b:Addr} {u:HO} (q:oq K h A b=some u):K.lookup b=none∧∃vs:List Value,vs.length≤sizeLine∧(∀u∈vs,Jj A u) ∧
  ((h.get? b=some { cls:=.type "list",data:=.seq vs.toArray }∧u=.BW { cls:=.type "list",data:=.seq vs.toArray } (.lst (vs.map toV))) ∨
   (h.get? b=some { cls:=.type "tuple",data:=.seq vs.toArray }∧u=.BW { cls:=.type "tuple",data:=.seq vs.toArray } (.tup (vs.map toV)))):=by
 obtain ⟨hb,hk⟩:=NR q
 obtain ⟨vs,h1,h2,h3⟩:=ar b hb
 refine ⟨hk,vs,h1,h2,?_⟩
 rcases h3 with e|e
 ·rw [wQ hb hk e,D8] at q
  exact .inl ⟨e,(bA.inj q).symm⟩
 ·rw [wQ hb hk e,D9] at q
  exact .inr ⟨e,(bA.inj q).symm⟩
theorem Jk (ar:∀a∈A,o_ h A a):D7 (oq K h A):=fun b=>by
 cases q:oq K h A b with
 | none=>exact .inl rfl
 | some u =>
  obtain ⟨_,vs,_,_,⟨_,e⟩|⟨_,e⟩⟩:=wR ar q
  ·exact .inr ⟨_,_,by rw [e]⟩
  ·exact .inr ⟨_,_,by rw [e]⟩
theorem NS (ar:∀a∈A,o_ h A a):sx P w (oq K h A) h:=fun b u q=>by
 obtain ⟨_,vs,h1,h2,⟨e,rfl⟩|⟨e,rfl⟩⟩:=wR ar q
 ·exact ⟨e,by rw [af];exact h1,vs,_,nT h2,e⟩
 ·exact ⟨e,by rw [af];exact h1,vs,nT h2,_,e,rfl,_,rfl⟩
theorem wU {c c':Value} {vs us:List Value} (e:(some { cls:=c,data:=.seq vs.toArray }:Option Obj)=some { cls:=c',data:=.seq us.toArray }):c=c'∧vs=us:=by
 have e1:=bA.inj e
 have e2:c=c':=congrArg Obj.cls e1
 have e3:Data.seq vs.toArray=Data.seq us.toArray:=congrArg Obj.data e1
 injection e3 with e4
 refine ⟨e2,?_⟩
 have e5:=congrArg Array.toList e4
 simpa using e5
theorem WW (KX:K.In h) (ar:∀a∈A,o_ h A a) {a:Addr} {vs:List Value} (ha:a∈A) (e:h.get? a=some { cls:=.type "list",data:=.seq vs.toArray }):(∀u∈vs,Jj A u)∧eS K (oq K h A) a (vs.map toV):=by
 obtain ⟨us,h1,h2,h3⟩:=ar a ha
 have hu:us=vs:=by
  rcases h3 with q|q
  ·rw [e] at q
   exact (wU q).2.symm
  ·rw [e] at q
   exact absurd (Value.type.inj (wU q).1) (by decide)
 subst hu
 refine ⟨h2,?_⟩
 cases hk:K.lookup a with
 | none=>exact .inl (.inr ⟨_,by rw [wQ ha hk e,D8]⟩)
 | some o =>
  have e2:=KX a o hk
  rw [e] at e2
  obtain rfl:=bA.inj e2
  exact .inr ⟨_,us.toArray,_,hk,rfl,rfl,rfl,by rw [aH];exact h1,by simpa using nT h2⟩
theorem WX (KX:K.In h) (ar:∀a∈A,o_ h A a) {a:Addr} {vs:List Value} (ha:a∈A) (e:h.get? a=some { cls:=.type "tuple",data:=.seq vs.toArray }):(∀u∈vs,Jj A u)∧xG K (oq K h A) a (vs.map toV):=by
 obtain ⟨us,h1,h2,h3⟩:=ar a ha
 have hu:us=vs:=by
  rcases h3 with q|q
  ·rw [e] at q
   exact absurd (Value.type.inj (wU q).1) (by decide)
  ·rw [e] at q
   exact (wU q).2.symm
 subst hu
 refine ⟨h2,?_⟩
 cases hk:K.lookup a with
 | none=>exact .inl (.inr ⟨_,by rw [wQ ha hk e,D9]⟩)
 | some o =>
  have e2:=KX a o hk
  rw [e] at e2
  obtain rfl:=bA.inj e2
  exact .inr ⟨_,us.toArray,_,hk,rfl,rfl,by rw [aH];exact h1,by simpa using nT h2⟩
mutual
theorem QE {Pm:Params} (KX:K.In h) (ar:∀a∈A,o_ h A a):∀(d:WData) (v:Value),Well Pm h v d→HC d=true→Jj A v→Dw K (oq K h A) (toV v) d
 | .none,_,x,_,_=>by
  cases x
  exact .gg
 | .bool b,_,x,_,_=>by
  cases x
  exact .bl b
 | .int i,_,x,_,_=>by
  cases x
  exact .int i
 | .str s,_,x,_,_=>by
  cases x
  exact .str s
 | .bytes b,_,x,_,_=>by
  cases x
  have z:=Dw.FJ (K:=K) (H:=oq K h A) b.toArray
  exact z
 | .list ds,_,x,p,hu=>by
  obtain ⟨a,vs,rfl,ho,rb⟩:=Bg x
  obtain ⟨h2,hs⟩:=WW KX ar hu ho
  exact .lst hs (Ca KX ar ds _ rb p h2)
 | .tuple ds,_,x,p,hu=>by
  obtain ⟨a,vs,rfl,ho,rb⟩:=xP x
  obtain ⟨h2,hs⟩:=WX KX ar hu ho
  exact .tup hs (Ca KX ar ds _ rb p h2)
 | .float _,_,_,p,_=>cR (show false=true from p)
 | .dict _,_,_,p,_=>cR (show false=true from p)
 | .bytearray _,_,_,p,_=>cR (show false=true from p)
 | .set _,_,_,p,_=>cR (show false=true from p)
 | .frozenset _,_,_,p,_=>cR (show false=true from p)
 | .obj _ _,_,_,p,_=>cR (show false=true from p)
theorem Ca {Pm:Params} (KX:K.In h) (ar:∀a∈A,o_ h A a):∀(ds:List WData) (vs:List Value),WellAll Pm h vs ds→vQ ds=true→(∀u∈vs,Jj A u)→o9 K (oq K h A) (vs.map toV) ds
 | [],_,x,_,_=>by
  cases x
  exact .nil
 | d::ds,_,x,p,hu=>by
  obtain ⟨v,vs,rfl,x1,x2⟩:=Bh x
  have q:HC d=true∧vQ ds=true:=J_.mp p
  exact .cons (QE KX ar d v x1 q.1 (hu _ (cj ..))) (Ca KX ar ds vs x2 q.2 fun u m=>hu u (bq _ m))
end
end
theorem Jl {P:Program} {w:World} {K:aa} {mg mb:Str→Option Value} {CX:Ho} {k:Nat} {fa:Addr} {fd:FuncData} {ps:List Str} {sp:Sp} {ft:Shared} {vals:List Value} {ds:List WData} {R:MK} {cl:Str→Option Addr} {d0:WData}
  (KX:K.In ft.heap) (Vk:ft.heap.Ns mainGlobals mg) (hb:ft.heap.Ns builtinsNs mb) (Z4:∀x:Str,x ≠ "__name__" → mb x=bootBuiltins x) (WY:ft.heap.NoLimit) (hg:ft.gens=#[])
  (QF:WellAll w.params ft.heap vals ds) (Jc:vQ ds=true) (Z5:∀d∈ds,d.weight≤1048576) (hr:jI k callerA)
  (F:∀base:Heap,K.In base→base.Ns mainGlobals mg→eI P w K mg base CX k fa fd ps sp) (Tb:∀(s:Shared) (us:List Value),us.length=ps.length→BindsTo s fd ⟨us,[]⟩ (ps.zip us)) (hlen:ds.length=ps.length)
  (MU:∀(H:Hp) (xs:List V),D7 H→o9 K H xs ds→sp xs H (fun v H'=>Dw K H' v d0) fun _ _ _=>False)
  (Tc:∀H e s',CX [] H ft (fun _ _ _=>False) e s'→False) :
  codeAny (model P w) callerA (.call (.ref fa) ⟨vals,[]⟩) (fun r s'=>∃u as,r=.ok (.ret u)∧ReadsW R cl s'.heap u d0 as∧OldK ft.heap s'.heap∧s'.os=ft.os∧AllBare s'.gens) ft:=by
 obtain ⟨A,ho,ar⟩:=sP ds vals QF Jc Z5
 have hO:D7 (oq K ft.heap A):=Jk ar
 have fR:sx P w (oq K ft.heap A) ft.heap:=NS ar
 have hS:=Ca KX ar ds vals QF Jc ho
 have hV:=nT ho
 have hK:∀b u,oq K ft.heap A b=some u→K.lookup b=none:=fun b u q=>(wR ar q).1
 have RS:∀{b:Addr} {o:Obj} {es:Array DictEntry} {ep:Nat},ft.heap.get? b=some o→o.data=.dict es ep→oq K ft.heap A b=none:=fun {b o es ep} e d=>by
  cases q:oq K ft.heap A b with
  | none=>rfl
  | some u =>
   obtain ⟨_,vs,_,_,⟨e2,_⟩|⟨e2,_⟩⟩:=wR ar q
   ·rw [e2] at e
    cases e
    have d':Data.seq vs.toArray _=Data.dict es ep:=d
    cases d'
   ·rw [e2] at e
    cases e
    have d':Data.seq vs.toArray _=Data.dict es ep:=d
    cases d'
 generalize oq K ft.heap A=H at hO fR hS hK RS
 have HE:∀{b:Addr} {o:Obj},ft.heap.get? b=some o→H b=none→(BY ft.heap H).get? b=some o:=fun e n=>Kd e n
 have Vl:∀{b:Addr} {m:Str→Option Value},ft.heap.Ns b m→(BY ft.heap H).Ns b m:=fun {b m} ⟨o,es,ep,e,d,r⟩=>⟨o,es,ep,HE e (RS e d),d,r⟩
 have nK:∀b o,K.lookup b=some o→H b=none:=fun b o e=>by
  cases q:H b with
  | none=>rfl
  | some u =>
   rw [hK b u q] at e
   cases e
 have Yq:K.In (BY ft.heap H):=fun b o e=>HE (KX b o e) (nK b o e)
 have hM:Mod K mg (BY ft.heap H):=⟨Yq,Vl Vk,⟨mb,Vl hb,Z4⟩,let ⟨mc,h1,h2⟩:=WY;⟨mc,Vl h1,h2⟩⟩
 have e0:zU P w K mg (BY ft.heap H) callerA [] ft H:=⟨rfl,hM,fun b o e=>Nf e,zJ (IU _ _),trivial,fun b hb=>absurd (show b∈([]:List Addr) from hb) (by simp),fR,.of_eq hg⟩
 have hl:vals.length=ps.length:=by rw [mz QF];exact hlen
 refine codeAny_mono ((F _ Yq (Vl Vk)).run callerA [] ft H ⟨vals,[]⟩ vals (vals.map toV) _ _ hr e0 (Tb ft vals hl) hV (MU H _ hO hS)) fun r s' x=>?_
 cases r with
 | error e=>exact (Tc H e s' x).elim
 | ok fl =>
  cases fl with
  | next=>exact False.elim x
  | brk=>exact False.elim x
  | cont=>exact False.elim x
  | ret u =>
   obtain ⟨v,H',os,bare,un,Td,r',q⟩:=x
   have kept:∀b o,ft.heap.get? b=some o→s'.heap.get? b=some o:=fun b o e=>by
    cases q2:H b with
    | none=>exact un.keep b o e q2 (by intro z;exact absurd (show b∈([]:List Addr) from z) (by simp)) (by simp)
    | some u2 =>
     rcases hO b with z|⟨ob,u3,z⟩
     ·rw [q2] at z
      cases z
     ·have z2:=un.BX b ob _ z
      obtain ⟨e1,_⟩:=fR b _ z
      obtain ⟨e2,_⟩:=Td b _ z2
      rw [e] at e1
      cases e1
      exact e2
   have Z6:K.In s'.heap:=fun b o e=>kept b o (KX b o e)
   obtain ⟨as,Yr⟩:=Dw.reads (R:=R) (cl:=cl) Td Z6 d0 v u q r'
   exact ⟨u,as,rfl,Yr,OldK.of_keep kept,os,bare⟩
theorem xQ {ds:List WData} (h:WData.layableAll ds=true):∀d∈ds,d.weight≤1048576:=fun d hd =>
 (PySem.W.layableW_iff.mp (aX.mp h d hd)).2.2
theorem xR:∀(cs:List Codec) (a:Codec.denoteAll cs),(Codec.encAll cs a).length=cs.length
 | [],_=>rfl
 | c::cs,a=>by
  show (Codec.encAll cs a.2).length+1=cs.length+1
  rw [xR cs a.2]
theorem Jm {r:OpenSpec} {k:Nat} {q:Program} {loose:List Str} {XP:(Str→Option Value)→Heap→Prop} {YP:World→Heap→Prop} {d:DefRec} {K:Params→aa} {CX:World→Ho} {ps:List Str} {sp:World→Sp}
  (K3:r.wellSaid=true) (Ys:d.params.defaults=[]) (hlen:r.args.length=ps.length) (hr:jI k callerA)
  (hY:∀(w:World) (h:Heap),YP w h→(K w.params).In h)
  (F:∀(w:World) (mg:Str→Option Value) (fa:Addr) (h:Heap),YP w h→(K w.params).In h→h.Ns mainGlobals mg→mg d.name=some (.ref fa) →
   ∃fd:FuncData,(∀(s:Shared) (us:List Value),us.length=ps.length→BindsTo s fd ⟨us,[]⟩ (ps.zip us)) ∧
    ∀base:Heap,(K w.params).In base→base.Ns mainGlobals mg→eI r.prog w (K w.params) mg base (CX w) k fa fd ps (sp w))
  (MU:∀(w:World) (H:Hp) (xs:List V) (a:Codec.denoteAll r.args),D7 H→Codec.withinAll r.args a=true→Codec.app r.args r.asked a=true→o9 (K w.params) H xs (Codec.encAll r.args a) →
   sp w xs H (fun v H'=>Dw (K w.params) H' v (r.ret.enc (Codec.app r.args r.f a))) fun _ _ _=>False)
  (Tc:∀(w:World) (H:Hp) (s:Shared) (e:Value) (s':Shared),CX w [] H s (fun _ _ _=>False) e s'→False) :
  OI q loose XP YP r d [] (fun f vs=>PySem.call f vs):=by
 intro w A9 ft mg mb G Y fa o pm cd doc dV kV ho hd Kj hD WZ hg args vals as NT W0 Yr QF W2
 obtain ⟨a,e1,e2⟩:=PySem.W.os_pre_some NT
 obtain ⟨e3,W3⟩:=Codec.encAll_of_decAll r.args args a e1
 subst e3
 have KX:=hY w _ Y
 obtain ⟨fd,hb,hF⟩:=F w mg fa _ Y KX G.T.g WZ
 refine PySem.W.enter_call (codeAny_mono (Jl (R:=[]) (cl:=classAt A9.heap) (d0:=r.ret.enc (Codec.app r.args r.f a)) KX G.T.g G.T.b G.T.builtins G.T.nolimit hg QF (Bf _ _) (xQ W0) hr hF hb (by rw [xR];exact hlen)
  (fun H xs hO hS=>MU w H xs a hO W3 e2 hS) fun H e s'=>Tc w H ft e s') fun r' s' hq=>?_)
 obtain ⟨u,Z7,rfl,h1,h2,h3,h4⟩:=hq
 exact ⟨.inl ⟨u,_,Z7,rfl,fun _=>rfl,h1,(OpenSpec.post_iff K3 W3 _ _).mpr rfl,fun z=>cR (show false=true from z)⟩,h2,h3,h4⟩
theorem Ge {r:OpenSpec} {k:Nat} {q:Program} {loose:List Str} {XP:(Str→Option Value)→Heap→Prop} {YP:World→Heap→Prop} {d:DefRec} {K:Params→aa} {CX:Ho} {ps:List Str} {sp:aa→Sp}
  (K3:r.wellSaid=true) (Ys:d.params.defaults=[]) (hlen:r.args.length=ps.length) (hr:jI k callerA)
  (hY:∀(w:World) (h:Heap),YP w h→(K w.params).In h)
  (F:∀(w:World) (mg:Str→Option Value) (fa:Addr) (h:Heap),YP w h→(K w.params).In h→h.Ns mainGlobals mg→mg d.name=some (.ref fa) →
   ∃fd:FuncData,(∀(s:Shared) (us:List Value),us.length=ps.length→BindsTo s fd ⟨us,[]⟩ (ps.zip us)) ∧
    ∀base:Heap,(K w.params).In base→base.Ns mainGlobals mg→eI r.prog w (K w.params) mg base CX k fa fd ps (sp (K w.params)))
  (MU:∀(K:aa) (H:Hp) (xs:List V) (a:Codec.denoteAll r.args),D7 H→Codec.withinAll r.args a=true→Codec.app r.args r.asked a=true→o9 K H xs (Codec.encAll r.args a) →
   sp K xs H (fun v H'=>Dw K H' v (r.ret.enc (Codec.app r.args r.f a))) fun _ _ _=>False)
  (Tc:∀(H:Hp) (s:Shared) (e:Value) (s':Shared),CX [] H s (fun _ _ _=>False) e s'→False) :
  OI q loose XP YP r d [] (fun f vs=>PySem.call f vs) :=
 Jm (K:=K) (CX:=fun _=>CX) (sp:=fun w=>sp (K w.params)) K3 Ys hlen hr hY F (fun w H xs a h1 h2 h3 h4=>MU (K w.params) H xs a h1 h2 h3 h4) fun _ H s e s'=>Tc H s e s'
end L2
end
section
set_option Elab.async false
set_option maxRecDepth 100000
set_option maxRecDepth 100000
set_option maxHeartbeats 2000000
namespace Mi
open PySem
inductive D where
 | gg|bl (b:Bool)|int (i:Int)|lst (l:List D)|tup (l:List D)|obj (ns:List Str) (ds:List D)|any
inductive O2 where
 | add|sub|mul|fdiv|mod|shl|bor|band|lt|le|gt|ge|eq|ne|isin|rF
inductive O1 where
 | neg|len|all|any|sum|rev|list
inductive Tg where
 | nm (i:Nat)|tp (l:List Nat)
def Tg.slots:Tg→List Nat
 | .nm i=>[i]
 | .tp l=>l
mutual
inductive E where
 | var (i:Nat)|int (z:Int)|bl (b:Bool)|gg
 | gl (x:Str) (d:D)
 | op (o:O2) (a b:E)|un (o:O1) (a:E)|not (a:E)|and (l:Es)|or (l:Es)|ite (c a b:E)
 | fld (a:E) (f:Str)|call (f:Str) (g:List D→Option D) (l:Es)
 | lst (l:Es)|tup (l:Es)
 | ix (a b:E)|sl (a:E) (lo hi:Oe)|step (a lo st:E)|cnt (a b:E)
 | comp (t:Tg) (it:It) (c:Oe) (e:E)
inductive Es where
 | nil|cons (a:E) (r:Es)
inductive Oe where
 | no|yes (a:E)
inductive It where
 | lst (a:E)|pB (a:E)|D_ (a b:E)|enum (a:E)|zip (a b:E)|rev (a:E)
end
abbrev eA:=List (Option D)
def fv:eA→Nat→Option D
 | [],_=>none
 | x::_,0=>x
 | _::r,n+1=>fv r n
def rV:eA→Nat→Option D→eA
 | [],_,_=>[]
 | _::r,0,y=>y::r
 | x::r,n+1,y=>x::rV r n y
def i7 (ρ:eA):List Nat→eA
 | []=>ρ
 | v::vs=>rV (i7 ρ vs) v none
def Bi:List Nat→List D→eA→Option eA
 | [],[],ρ=>some ρ
 | i::is,d::ds,ρ=>Bi is ds (rV ρ i (some d))
 | _,_,_=>none
def Jn:Tg→D→eA→Option eA
 | .nm i,d,ρ=>some (rV ρ i (some d))
 | .tp l,.tup ds,ρ=>Bi l ds ρ
 | .tp _,_,_=>none
def intsOf:List D→Option (List Int)
 | []=>some []
 | .int i::r=>(intsOf r).bind fun l=>some (i::l)
 | _::_=>none
def kW:List D→Option (List Bool)
 | []=>some []
 | .bl i::r=>(kW r).bind fun l=>some (i::l)
 | _::_=>none
def Te:D→D→Option Bool
 | .int i,.int j=>some (decide (i=j))
 | .bl i,.bl j=>some (decide (i=j))
 | .lst a,.lst b=>(intsOf a).bind fun x=>(intsOf b).bind fun y=>some (decide (x=y))
 | _,_=>none
def inD:D→D→Option Bool
 | .int i,.lst b=>(intsOf b).bind fun y=>some (decide (i∈y))
 | .int i,.tup b=>(intsOf b).bind fun y=>some (decide (i∈y))
 | _,_=>none
def iA:O2→D→D→Option D
 | .add,.int i,.int j=>some (.int (i+j))
 | .add,.lst a,.lst b=>if a.length+b.length≤sizeLine then some (.lst (a++b)) else none
 | .sub,.int i,.int j=>some (.int (i - j))
 | .mul,.int i,.int j=>if (-(2 ^ 64) < i∧i < 2 ^ 64) then some (.int (i*j)) else none
 | .mul,.lst a,.int k=>if k < 2 ^ 24∧-(2 ^ 24) < k∧a.length*k.toNat≤sizeLine then some (.lst (aG k.toNat a).flatten) else none
 | .fdiv,.int i,.int j=>if 0 < j∧j < 1073741824 then some (.int (i / j)) else none
 | .mod,.int i,.int j=>if 0 < j then some (.int (i % j)) else none
 | .shl,.int i,.int j=>if 0≤j∧j≤1000000∧i.natAbs < 2 ^ 64 then some (.int (i*2 ^ j.toNat)) else none
 | .bor,.int i,.int j=>some (.int (Builtin.bitOr i j))
 | .band,.int i,.int j=>some (.int (Builtin.bitAnd i j))
 | .lt,.int i,.int j=>some (.bl (decide (i < j)))
 | .le,.int i,.int j=>some (.bl (decide (i≤j)))
 | .gt,.int i,.int j=>some (.bl (decide (j < i)))
 | .ge,.int i,.int j=>some (.bl (decide (j≤i)))
 | .eq,a,b=>(Te a b).bind fun c=>some (.bl c)
 | .ne,a,b=>(Te a b).bind fun c=>some (.bl (!c))
 | .isin,a,b=>(inD a b).bind fun c=>some (.bl c)
 | .rF,a,b=>(inD a b).bind fun c=>some (.bl (!c))
 | _,_,_=>none
def vp:O1→D→Option D
 | .neg,.int i=>some (.int (-i))
 | .len,.lst l=>some (.int l.length)
 | .len,.tup l=>some (.int l.length)
 | .all,.lst l=>(kW l).bind fun b=>some (.bl (b.all id))
 | .any,.lst l=>(kW l).bind fun b=>some (.bl (b.any id))
 | .sum,.lst l=>(intsOf l).bind fun b=>some (.int b.sum)
 | .rev,.lst l=>some (.lst l.reverse)
 | .list,.lst l=>some (.lst l)
 | .list,.tup l=>if l.length≤sizeLine then some (.lst l) else none
 | _,_=>none
def K4:D→Option D
 | .bl b=>some (.bl !b)
 | _=>none
def look (f:Str):List Str→List D→Option D
 | n::ns,d::ds=>if n=f then some d else look f ns ds
 | _,_=>none
def pX:D→Str→Option D
 | .obj ns ds,f=>look f ns ds
 | _,_=>none
def RY:List D→Int→Option D
 | l,.ofNat k=>l[k]?
 | _,_=>none
def Gf:D→D→Option D
 | .lst l,.int i=>RY l i
 | .tup l,.int i=>RY l i
 | _,_=>none
def RZ (n d:Nat):Option Int→Option Nat
 | none=>some d
 | some (.ofNat k)=>some (min k n)
 | _=>none
def J6:D→Option Int→Option Int→Option D
 | .lst l,lo,hi=>(RZ l.length 0 lo).bind fun a=>(RZ l.length l.length hi).bind fun b=>some (.lst ((l.drop a).take (b - a)))
 | _,_,_=>none
def pick (l:List D) (i k:Nat):List D:=(sliceRange (min i l.length:Nat) (l.length:Nat) (k:Nat)).filterMap fun j=>l[j]?
def Ea:D→D→D→Option D
 | .lst l,.int (.ofNat i),.int (.ofNat k)=>if 0 < k∧(pick l i k).length≤sizeLine then some (.lst (pick l i k)) else none
 | _,_,_=>none
def Jo:D→D→Option D
 | .lst l,.int i=>(intsOf l).bind fun x=>some (.int (x.count i:Nat))
 | _,_=>none
def nU:Nat→List D→List D
 | _,[]=>[]
 | k,d::r=>.tup [.int k,d]::nU (k+1) r
def rW:List D→List D→List D
 | a::r,b::q=>.tup [a,b]::rW r q
 | _,_=>[]
def sQ (lo:Int):Nat→List D
 | 0=>[]
 | n+1=>.int lo::sQ (lo+1) n
def iB (c:eA→Option Bool) (e:eA→Option D) (t:Tg) (ρ:eA):List D→Option (List D)
 | []=>some []
 | d::r=>(Jn t d ρ).bind fun Tf=>(c Tf).bind fun b=>match b with
  | true=>(e Tf).bind fun x=>(iB c e t ρ r).bind fun xs=>some (x::xs)
  | false=>iB c e t ρ r
def fB:D→Option Bool
 | .bl b=>some b
 | _=>none
def intOf:D→Option Int
 | .int i=>some i
 | _=>none
def NU:D→Option (List D)
 | .lst l=>some l
 | _=>none
def itR (lo:Int):D→Option (List D)
 | .int j=>if -(2 ^ 24) < lo∧lo < 2 ^ 24∧-(2 ^ 24) < j∧j < 2 ^ 24∧(j - lo).toNat≤sizeLine then some (sQ lo (j - lo).toNat) else none
 | _=>none
def Gg:D→D→Option (List D)
 | .int i,d=>itR i d
 | _,_=>none
def Vm:D→D→Option (List D)
 | .lst a,.lst b=>some (rW a b)
 | _,_=>none
mutual
def bF:E→eA→Option D
 | .var i,ρ=>fv ρ i
 | .int z,_=>some (.int z)
 | .bl b,_=>some (.bl b)
 | .gg,_=>some .gg
 | .gl _ d,_=>some d
 | .op o a b,ρ=>(bF a ρ).bind fun x=>(bF b ρ).bind fun y=>iA o x y
 | .un o a,ρ=>(bF a ρ).bind fun x=>vp o x
 | .not a,ρ=>(bF a ρ).bind fun x=>K4 x
 | .and l,ρ=>rG l ρ
 | .or l,ρ=>zX l ρ
 | .ite c a b,ρ=>(bF c ρ).bind fun x=>(fB x).bind fun k=>match k with
  | true=>bF a ρ
  | false=>bF b ρ
 | .fld a f,ρ=>(bF a ρ).bind fun x=>pX x f
 | .call _ g l,ρ=>(jO l ρ).bind g
 | .lst l,ρ=>(jO l ρ).bind fun ds=>some (.lst ds)
 | .tup l,ρ=>(jO l ρ).bind fun ds=>some (.tup ds)
 | .ix a b,ρ=>(bF a ρ).bind fun x=>(bF b ρ).bind fun y=>Gf x y
 | .sl a lo hi,ρ=>(bF a ρ).bind fun x=>(J7 lo ρ).bind fun l=>(J7 hi ρ).bind fun h=>J6 x l h
 | .step a lo st,ρ=>(bF a ρ).bind fun x=>(bF lo ρ).bind fun l=>(bF st ρ).bind fun h=>Ea x l h
 | .cnt a b,ρ=>(bF a ρ).bind fun x=>(bF b ρ).bind fun y=>Jo x y
 | .comp t it c e,ρ=>(pC it ρ).bind fun ds=>(iB (Bj c) (bF e) t (i7 ρ t.slots) ds).bind fun l=>some (.lst l)
def jO:Es→eA→Option (List D)
 | .nil,_=>some []
 | .cons a r,ρ=>(bF a ρ).bind fun x=>(jO r ρ).bind fun xs=>some (x::xs)
def rG:Es→eA→Option D
 | .nil,_=>none
 | .cons a .nil,ρ=>bF a ρ
 | .cons a r,ρ=>(bF a ρ).bind fun x=>(fB x).bind fun k=>match k with
  | true=>rG r ρ
  | false=>some (.bl false)
def zX:Es→eA→Option D
 | .nil,_=>none
 | .cons a .nil,ρ=>bF a ρ
 | .cons a r,ρ=>(bF a ρ).bind fun x=>(fB x).bind fun k=>match k with
  | true=>some (.bl true)
  | false=>zX r ρ
def J7:Oe→eA→Option (Option Int)
 | .no,_=>some none
 | .yes a,ρ=>(bF a ρ).bind fun x=>(intOf x).bind fun i=>some (some i)
def Bj:Oe→eA→Option Bool
 | .no,_=>some true
 | .yes a,ρ=>(bF a ρ).bind fB
def pC:It→eA→Option (List D)
 | .lst a,ρ=>(bF a ρ).bind NU
 | .pB a,ρ=>(bF a ρ).bind (itR 0)
 | .D_ a b,ρ=>(bF a ρ).bind fun x=>(bF b ρ).bind fun y=>Gg x y
 | .enum a,ρ=>(bF a ρ).bind fun x=>(NU x).bind fun l=>some (nU 0 l)
 | .zip a b,ρ=>(bF a ρ).bind fun x=>(bF b ρ).bind fun y=>Vm x y
 | .rev a,ρ=>(bF a ρ).bind fun x=>(NU x).bind fun l=>some l.reverse
end
inductive Sl where
 | no|fz (d:D)|ow (l:List D)
mutual
inductive S where
 | asg (i:Nat) (e:E) (fz:List Nat)
 | own (i:Nat) (e:E) (fz:List Nat)
 | aug (i:Nat) (o:O2) (e:E)
 | app (i:Nat) (e:E) (fz:List Nat)
 | ext (i:Nat) (e:E) (fz:List Nat)
 | ret (e:E) (fz:List Nat)
 | jj (c:E) (a b:Ss)
 | jk (t:Tg) (it:It) (fz:List Nat) (body:Ss)
 | brk|cont|pass
inductive Ss where
 | nil|cons (a:S) (r:Ss)
end
inductive Out where
 | nx (s:List Sl)|rt (d:D)|bk (s:List Sl)|ct (s:List Sl)
def gh:List Sl→Nat→Sl
 | [],_=>.no
 | x::_,0=>x
 | _::r,n+1=>gh r n
def sset:List Sl→Nat→Sl→List Sl
 | [],_,_=>[]
 | _::r,0,y=>y::r
 | x::r,n+1,y=>x::sset r n y
def Bk:Sl→Sl
 | .ow l=>.fz (.lst l)
 | x=>x
def freeze:List Nat→List Sl→List Sl
 | [],s=>s
 | i::r,s=>freeze r (sset s i (Bk (gh s i)))
def K5:Sl→Option D
 | .fz d=>some d
 | _=>none
def view (s:List Sl):eA:=s.map K5
def K6:Sl→Option D
 | .fz d=>some d
 | .ow l=>some (.lst l)
 | .no=>none
def bx (s:List Sl):eA:=s.map K6
def Th:D→Bool
 | .gg=>true
 | .bl _=>true
 | .int _=>true
 | _=>false
def listOf:D→Option (List D)
 | .lst l=>some l
 | _=>none
def Bl:List Nat→List D→List Sl→Option (List Sl)
 | [],[],s=>some s
 | i::is,d::ds,s=>Bl is ds (sset s i (.fz d))
 | _,_,_=>none
def Gh:Tg→D→List Sl→Option (List Sl)
 | .nm i,d,s=>some (sset s i (.fz d))
 | .tp l,.tup ds,s=>Bl l ds s
 | .tp _,_,_=>none
def after (d:D) (fz:List Nat) (s:List Sl):List Sl:=match Th d with
 | true=>s
 | false=>freeze fz s
def xS (o:O2) (x:Option D) (d:D):Option D:=match x,d with
 | some (.int i),.int j=>(match o with
  | .add=>some (.int (i+j))
  | .sub=>some (.int (i - j))
  | .bor=>some (.int (Builtin.bitOr i j))
  | _=>none)
 | _,_=>none
def Cb (s:List Sl) (i:Nat) (more:List D):Option (List Sl):=match gh s i with
 | .ow l=>if l.length+more.length≤sizeLine then some (sset s i (.ow (l++more))) else none
 | _=>none
def loop (t:Tg) (body:List Sl→Option Out):List D→List Sl→Option Out
 | [],s=>some (.nx s)
 | d::r,s=>(Gh t d s).bind fun s1=>(body s1).bind fun o=>match o with
  | .nx s2=>loop t body r s2
  | .ct s2=>loop t body r s2
  | .bk s2=>some (.nx s2)
  | .rt d=>some (.rt d)
mutual
def uc:S→List Sl→Option Out
 | .asg i e fz,s=>(bF e (view (freeze fz s))).bind fun d=>some (.nx (sset (after d fz s) i (.fz d)))
 | .own i e fz,s=>(bF e (view (freeze fz s))).bind fun d=>(listOf d).bind fun l=>some (.nx (sset (freeze fz s) i (.ow l)))
 | .aug i o e,s=>(bF e (bx s)).bind fun d=>(xS o (fv (view s) i) d).bind fun x=>some (.nx (sset s i (.fz x)))
 | .app i e fz,s=>(bF e (view (freeze fz s))).bind fun d=>(Cb (after d fz s) i [d]).bind fun s1=>some (.nx s1)
 | .ext i e fz,s=>(bF e (view (freeze fz s))).bind fun d=>(listOf d).bind fun l=>(Cb (freeze fz s) i l).bind fun s1=>some (.nx s1)
 | .ret e fz,s=>(bF e (view (freeze fz s))).bind fun d=>some (.rt d)
 | .jj c a b,s=>(bF c (bx s)).bind fun d=>(fB d).bind fun k=>match k with
  | true=>cg a s
  | false=>cg b s
 | .jk t it fz body,s=>(pC it (view (freeze fz s))).bind fun ds=>loop t (cg body) ds (freeze fz s)
 | .brk,s=>some (.bk s)
 | .cont,s=>some (.ct s)
 | .pass,s=>some (.nx s)
def cg:Ss→List Sl→Option Out
 | .nil,s=>some (.nx s)
 | .cons a r,s=>(uc a s).bind fun o=>match o with
  | .nx s1=>cg r s1
  | .rt d=>some (.rt d)
  | .bk s1=>some (.bk s1)
  | .ct s1=>some (.ct s1)
end
def bN (n:Nat) (body:Ss) (ds:List D):Option D :=
 (cg body (ds.map .fz++aG (n - ds.length) .no)).bind fun o=>match o with
  | .rt d=>some d
  | .nx _=>some .gg
  | _=>none
end Mi
namespace Mi
open PySem PySem.Spec PyProof.Rows L2
def MY (K:aa) (C:Addr) (gs:List (Str×V)):List Str→List V→Prop
 | [],vs=>vs=[]
 | n::ns,vs=>∃v r,vs=v::r∧iY K C n∧gs.lookup n=some v∧MY K C gs ns r
mutual
def Den (K:aa) (F:Hp):D→V→Prop
 | .gg,v=>v=.gg
 | .bl b,v=>v=.bl b
 | .int i,v=>v=.int i
 | .any,_=>True
 | .lst ds,v=>ds.length≤sizeLine∧∃a vs,v=.ref a∧F a=some (.lst vs)∧cG K F ds vs
 | .tup ds,v=>∃a vs,v=.ref a∧xG K F a vs∧cG K F ds vs
 | .obj ns ds,v=>∃a C dx gs vs,v=.ref a∧F a=some (.ins C dx gs)∧MT K C∧MY K C gs ns vs∧cG K F ds vs
def cG (K:aa) (F:Hp):List D→List V→Prop
 | [],vs=>vs=[]
 | d::ds,vs=>∃v r,vs=v::r∧Den K F d v∧cG K F ds r
end
theorem l5 {K:aa} {F G:Hp} {a:Addr} {vs:List V} (s:bT F G) (h:xG K F a vs):xG K G a vs:=by
 rcases h with (h|⟨o,h⟩)|h
 ·exact .inl (.inl (s _ _ h))
 ·exact .inl (.inr ⟨o,s _ _ h⟩)
 ·exact .inr h
mutual
theorem cT {K:aa} {F G:Hp} (s:bT F G):∀(d:D) (v:V),Den K F d v→Den K G d v
 | .gg,_,h=>by unfold Den at h ⊢;exact h
 | .bl _,_,h=>by unfold Den at h ⊢;exact h
 | .int _,_,h=>by unfold Den at h ⊢;exact h
 | .any,_,_=>by unfold Den;trivial
 | .lst ds,v,h=>by
  unfold Den at h ⊢
  obtain ⟨z,a,vs,e,q,r⟩:=h
  exact ⟨z,a,vs,e,s _ _ q,cD s ds vs r⟩
 | .tup ds,v,h=>by
  unfold Den at h ⊢
  obtain ⟨a,vs,e,q,r⟩:=h
  exact ⟨a,vs,e,l5 s q,cD s ds vs r⟩
 | .obj ns ds,v,h=>by
  unfold Den at h ⊢
  obtain ⟨a,C,dx,gs,vs,e,q,c,f,r⟩:=h
  exact ⟨a,C,dx,gs,vs,e,s _ _ q,c,f,cD s ds vs r⟩
theorem cD {K:aa} {F G:Hp} (s:bT F G):∀(ds:List D) (vs:List V),cG K F ds vs→cG K G ds vs
 | [],_,h=>by unfold cG at h ⊢;exact h
 | d::ds,vs,h=>by
  unfold cG at h ⊢
  obtain ⟨v,r,e,h1,h2⟩:=h
  exact ⟨v,r,e,cT s d v h1,cD s ds r h2⟩
end
section
variable {K:aa} {F G H H' F':Hp} {σ:L2.St}
theorem bU:cG K F [] []:=by unfold cG;rfl
theorem bB {d:D} {ds:List D} {v:V} {vs:List V} (h:Den K F d v) (r:cG K F ds vs):cG K F (d::ds) (v::vs):=by
 unfold cG;exact ⟨v,vs,rfl,h,r⟩
theorem bJ {d:D} {ds:List D} {vs:List V} (h:cG K F (d::ds) vs):∃v r,vs=v::r∧Den K F d v∧cG K F ds r:=by
 unfold cG at h;exact h
theorem bL {vs:List V} (h:cG K F [] vs):vs=[]:=by unfold cG at h;exact h
theorem bM:∀{ds:List D} {vs:List V},cG K F ds vs→ds.length=vs.length
 | [],_,h=>by rw [bL h];rfl
 | d::ds,vs,h=>by
  obtain ⟨v,r,rfl,_,h2⟩:=bJ h
  simp [bM h2]
theorem jl:∀{ds es:List D} {vs us:List V},cG K F ds vs→cG K F es us→cG K F (ds++es) (vs++us)
 | [],_,_,_,h,q=>by rw [bL h];exact q
 | d::ds,_,vs,_,h,q=>by
  obtain ⟨v,r,rfl,h1,h2⟩:=bJ h
  exact bB h1 (jl h2 q)
theorem fg:∀{ds:List D} {vs:List V} {i:Nat} {d:D},cG K F ds vs→ds[i]?=some d→∃v,vs[i]?=some v∧Den K F d v
 | [],_,_,_,_,e=>by simp at e
 | d::ds,vs,0,x,h,e=>by
  obtain ⟨v,r,rfl,h1,h2⟩:=bJ h
  simp at e;subst e
  exact ⟨v,rfl,h1⟩
 | d::ds,vs,i+1,x,h,e=>by
  obtain ⟨v,r,rfl,h1,h2⟩:=bJ h
  obtain ⟨u,q1,q2⟩:=fg (i:=i) h2 (by simpa using e)
  exact ⟨u,by simpa using q1,q2⟩
theorem HF:∀{ds:List D} {vs:List V} {i:Nat} {v:V},cG K F ds vs→vs[i]?=some v→∃d,ds[i]?=some d∧Den K F d v
 | [],_,_,_,h,e=>by rw [bL h] at e;simp at e
 | d::ds,vs,0,x,h,e=>by
  obtain ⟨v,r,rfl,h1,h2⟩:=bJ h
  simp at e;subst e
  exact ⟨d,rfl,h1⟩
 | d::ds,vs,i+1,x,h,e=>by
  obtain ⟨v,r,rfl,h1,h2⟩:=bJ h
  obtain ⟨u,q1,q2⟩:=HF (i:=i) h2 (by simpa using e)
  exact ⟨u,by simpa using q1,q2⟩
theorem uv:∀(n:Nat) {ds:List D} {vs:List V},cG K F ds vs→cG K F (ds.drop n) (vs.drop n)
 | 0,_,_,h=>h
 | n+1,[],_,h=>by rw [bL h];exact bU
 | n+1,d::ds,vs,h=>by
  obtain ⟨v,r,rfl,h1,h2⟩:=bJ h
  exact uv n h2
theorem Bm:∀(n:Nat) {ds:List D} {vs:List V},cG K F ds vs→cG K F (ds.take n) (vs.take n)
 | 0,_,_,_=>bU
 | n+1,[],_,h=>by rw [bL h];exact bU
 | n+1,d::ds,vs,h=>by
  obtain ⟨v,r,rfl,h1,h2⟩:=bJ h
  exact bB h1 (Bm n h2)
theorem Eb:∀{ds:List D} {vs:List V},cG K F ds vs→cG K F ds.reverse vs.reverse
 | [],_,h=>by rw [bL h];exact bU
 | d::ds,vs,h=>by
  obtain ⟨v,r,rfl,h1,h2⟩:=bJ h
  rw [dQ,dQ]
  exact jl (Eb h2) (bB h1 bU)
theorem Ec {ds:List D} {vs:List V} (h:cG K F ds vs):∀k:Nat,cG K F (aG k ds).flatten (aG k vs).flatten
 | 0=>bU
 | k+1=>by
  rw [cM,cM,bz,bz]
  exact jl h (Ec h k)
theorem lW:∀{ds:List D} {ns:List Int} {vs:List V},intsOf ds=some ns→cG K F ds vs→vs=ns.map V.int
 | [],ns,vs,e,h=>by
  rw [bL h]
  simp [intsOf] at e;subst e;rfl
 | .int i::ds,ns,vs,e,h=>by
  obtain ⟨v,r,rfl,h1,h2⟩:=bJ h
  simp only [intsOf] at e
  cases q:intsOf ds with
  | none=>rw [q] at e;simp at e
  | some l =>
   rw [q] at e
   simp at e;subst e
   have e1:v=.int i:=by unfold Den at h1;exact h1
   rw [lW q h2,e1];rfl
 | .gg::_,_,_,e,_=>by simp [intsOf] at e
 | .bl _::_,_,_,e,_=>by simp [intsOf] at e
 | .lst _::_,_,_,e,_=>by simp [intsOf] at e
 | .tup _::_,_,_,e,_=>by simp [intsOf] at e
 | .obj _ _::_,_,_,e,_=>by simp [intsOf] at e
 | .any::_,_,_,e,_=>by simp [intsOf] at e
theorem xT:∀{ds:List D} {ns:List Bool} {vs:List V},kW ds=some ns→cG K F ds vs→vs=ns.map V.bl
 | [],ns,vs,e,h=>by
  rw [bL h]
  simp [kW] at e;subst e;rfl
 | .bl i::ds,ns,vs,e,h=>by
  obtain ⟨v,r,rfl,h1,h2⟩:=bJ h
  simp only [kW] at e
  cases q:kW ds with
  | none=>rw [q] at e;simp at e
  | some l =>
   rw [q] at e
   simp at e;subst e
   have e1:v=.bl i:=by unfold Den at h1;exact h1
   rw [xT q h2,e1];rfl
 | .gg::_,_,_,e,_=>by simp [kW] at e
 | .int _::_,_,_,e,_=>by simp [kW] at e
 | .lst _::_,_,_,e,_=>by simp [kW] at e
 | .tup _::_,_,_,e,_=>by simp [kW] at e
 | .obj _ _::_,_,_,e,_=>by simp [kW] at e
 | .any::_,_,_,e,_=>by simp [kW] at e
theorem bD {i:Int} {v:V} (h:Den K F (.int i) v):v=.int i:=by unfold Den at h;exact h
theorem uw {i:Bool} {v:V} (h:Den K F (.bl i) v):v=.bl i:=by unfold Den at h;exact h
theorem dd {l:List D} {v:V} (h:Den K F (.lst l) v):l.length≤sizeLine∧∃a vs,v=.ref a∧F a=some (.lst vs)∧cG K F l vs:=by unfold Den at h;exact h
theorem qE {l:List D} {v:V} (h:Den K F (.tup l) v):∃a vs,v=.ref a∧xG K F a vs∧cG K F l vs:=by unfold Den at h;exact h
theorem bO (i:Int):Den K F (.int i) (.int i):=by unfold Den;rfl
theorem mB (i:Bool):Den K F (.bl i) (.bl i):=by unfold Den;rfl
theorem K7:Den K F .gg .gg:=by unfold Den;rfl
theorem f9 {l:List D} {vs:List V} {a:Addr} (z:l.length≤sizeLine) (e:F a=some (.lst vs)) (r:cG K F l vs):Den K F (.lst l) (.ref a):=by
 unfold Den;exact ⟨z,a,vs,rfl,e,r⟩
theorem xU {l:List D} {vs:List V} {a:Addr} (e:xG K F a vs) (r:cG K F l vs):Den K F (.tup l) (.ref a):=by
 unfold Den;exact ⟨a,vs,rfl,e,r⟩
theorem HG {d:D} {v:V} (h:Den K F d v) (s:Th d=true):Den K G d v:=by
 cases d<;>first|(unfold Den at h ⊢;exact h)|(simp [Th] at s)
structure Ext (F H F' H':Hp):Prop where
 hh:bT H H'
 ff:bT F F'
 fh:bT F' H'
 nw:∀b,F b=none→H b≠none→F' b=none
theorem same_refl (H:Hp):bT H H:=fun _ _ e=>e
theorem same_none (s:bT F H) {b:Addr} (h:H b=none):F b=none:=by
 cases q:F b with
 | none=>rfl
 | some o=>rw [s b o q] at h;cases h
theorem Cd (s:bT F H) {b:Addr} (h:F b≠none):H b≠none:=fun e=>h (same_none s e)
theorem Ext.refl (s:bT F H):Ext F H F H:=⟨same_refl H,same_refl F,s,fun _ h _=>h⟩
theorem Ext.trans {F1 H1 F2 H2:Hp} (a:Ext F H F1 H1) (b:Ext F1 H1 F2 H2):Ext F H F2 H2 :=
 ⟨a.hh.trans b.hh,a.ff.trans b.ff,b.fh,fun c h1 h2=>b.nw c (a.nw c h1 h2) (Cd a.hh h2)⟩
theorem d8 (h:H p=none) (o:HO):bT H (upd H p o):=fun b u e=>by
 rw [aM (bP e h)];exact e
theorem Ext.new (s:bT F H) {p:Addr} (h:H p=none) (o:HO):Ext F H (upd F p o) (upd H p o) :=
 ⟨d8 h o,d8 (same_none s h) o,fun b u e=>by
  by_cases hb:b=p
  ·subst hb;rw [aK] at e ⊢;exact e
  ·rw [aM hb] at e ⊢;exact s b u e,fun b h1 h2=>by
  by_cases hb:b=p
  ·subst hb;exact absurd h h2
  ·rw [aM hb];exact h1⟩
theorem Ext.Ti (s:bT F H) {p:Addr} (h:H p=none) (o:HO):Ext F H F (upd H p o) :=
 ⟨d8 h o,same_refl F,s.trans (d8 h o),fun _ h1 _=>h1⟩
def rX (K:aa) (F:Hp) (σ:L2.St) (ρ:eA):Prop:=∀i d,fv ρ i=some d→∃v,σ[i]?=some (some v)∧Den K F d v
theorem rX.mono {ρ:eA} (h:rX K F σ ρ) (s:bT F G):rX K G σ ρ:=fun i d e=>by
 obtain ⟨v,h1,h2⟩:=h i d e
 exact ⟨v,h1,cT s d v h2⟩
theorem ux:∀(ρ:eA) (i j:Nat) (y:Option D),fv (rV ρ i y) j=if i=j∧i < ρ.length then y else fv ρ j
 | [],i,j,y=>by simp [rV,fv]
 | x::r,0,0,y=>by simp [rV,fv]
 | x::r,0,j+1,y=>by simp [rV,fv]
 | x::r,i+1,0,y=>by simp [rV,fv]
 | x::r,i+1,j+1,y=>by simp [rV,fv,ux r i j y]
theorem xV:∀(ρ:eA) (i:Nat) (y:Option D),(rV ρ i y).length=ρ.length
 | [],_,_=>rfl
 | _::_,0,_=>rfl
 | _::r,i+1,y=>by simp [rV,xV r i y]
theorem Ce:∀{ρ:eA} {i:Nat} {d:D},fv ρ i=some d→i < ρ.length
 | [],_,_,h=>by simp [fv] at h
 | _::_,0,_,_=>by simp
 | _::r,i+1,d,h=>by
  have:=Ce (ρ:=r) (i:=i) (d:=d) h
  simp;omega
theorem rX.set {ρ:eA} (h:rX K F σ ρ) (l:σ.length=ρ.length) {i:Nat} {d:D} {v:V} (hd:Den K F d v):rX K F (σ.set i (some v)) (rV ρ i (some d)):=fun j x e=>by
 rw [ux] at e
 by_cases hi:i=j∧i < ρ.length
 ·rw [if_pos hi] at e
  obtain ⟨rfl,hl⟩:=hi
  cases e
  exact ⟨v,by rw [b6 (by omega)],hd⟩
 ·rw [if_neg hi] at e
  have hj:=Ce e
  have kI:i≠j:=fun z=>hi ⟨z,by omega⟩
  obtain ⟨u,h1,h2⟩:=h j x e
  exact ⟨u,by rw [bg kI];exact h1,h2⟩
theorem rX.no {ρ:eA} (h:rX K F σ ρ) {i:Nat}:rX K F (σ.set i none) (rV ρ i none):=fun j x e=>by
 rw [ux] at e
 by_cases hi:i=j∧i < ρ.length
 ·rw [if_pos hi] at e;cases e
 ·rw [if_neg hi] at e
  have hj:=Ce e
  have kI:i≠j:=fun z=>hi ⟨z,by omega⟩
  obtain ⟨u,h1,h2⟩:=h j x e
  exact ⟨u,by rw [bg kI];exact h1,h2⟩
theorem Bn (ρ:eA):∀vs:List Nat,(i7 ρ vs).length=ρ.length
 | []=>rfl
 | v::vs=>by unfold i7;rw [xV,Bn ρ vs]
theorem rX.wipe {ρ:eA} (h:rX K F σ ρ):∀vs:List Nat,rX K F (wipe σ vs) (i7 ρ vs)
 | []=>h
 | v::vs=>by unfold L2.wipe i7;exact rX.no (rX.wipe h vs)
end
end Mi
namespace Mi
open PySem PySem.Spec PyProof.Rows L2
structure Slots (K:aa) (F:Hp) (σ:L2.St) (ρ:eA):Prop where
 len:σ.length=ρ.length
 den:rX K F σ ρ
section
variable {K:aa} {F G H H' F':Hp} {σ:L2.St} {ρ:eA}
theorem Slots.mono (h:Slots K F σ ρ) (s:bT F G):Slots K G σ ρ:=⟨h.len,h.den.mono s⟩
theorem Slots.wipe (h:Slots K F σ ρ) (vs:List Nat):Slots K F (wipe σ vs) (i7 ρ vs):=⟨by rw [g0,Bn];exact h.len,h.den.wipe vs⟩
theorem Slots.set (h:Slots K F σ ρ) {i:Nat} {d:D} {v:V} (hd:Den K F d v):Slots K F (σ.set i (some v)) (rV ρ i (some d)):=⟨by rw [cO,xV];exact h.len,h.den.set h.len hd⟩
theorem Ext.adopt {F2 H2:Hp} {p:Addr} {o:HO} (e:Ext F H F2 H2) (h:H p=none) (h2:H2 p=some o) (f:F2 p=none):Ext F H (upd F2 p o) H2 :=
 ⟨e.hh,e.ff.trans (d8 f o),fun b u q=>by
  by_cases hb:b=p
  ·subst hb;rw [aK] at q;rw [h2];exact q
  ·rw [aM hb] at q;exact e.fh b u q,fun b h1 h3=>by
  by_cases hb:b=p
  ·subst hb;exact absurd h h3
  ·rw [aM hb];exact e.nw b h1 h3⟩
theorem Ext.write {F2 H2:Hp} {p:Addr} {o:HO} (e:Ext F H F2 H2) (h:H p=none) (f:F2 p=none):Ext F H F2 (upd H2 p o) :=
 ⟨fun b u q=>by rw [aM (bP q h)];exact e.hh b u q,e.ff,fun b u q=>by rw [aM (bP q f)];exact e.fh b u q,e.nw⟩
end
def tM (K:aa) (ev:eA→Option D):TE:=fun σ H Q=>∃F ρ d,bT F H∧Slots K F σ ρ∧ev ρ=some d∧∀v F' H',Ext F H F' H'→Den K F' d v→Q v H'
def HH (K:aa) (ev:eA→Option (List D)):TA:=fun σ H Q=>∃F ρ d,bT F H∧Slots K F σ ρ∧ev ρ=some d∧∀v F' H',Ext F H F' H'→cG K F' d v→Q v H'
def sR (K:aa) (ev:eA→Option Bool):TT:=fun σ H Q=>∃F ρ b,bT F H∧Slots K F σ ρ∧ev ρ=some b∧∀F' H',Ext F H F' H'→Q b H'
def QG (K:aa) (ev:eA→Option (Option Int)):TO:=fun σ H Q=>∃F ρ o,bT F H∧Slots K F σ ρ∧ev ρ=some o∧∀F' H',Ext F H F' H'→Q o H'
structure Jp (K:aa) (F:Hp) (J:L2.It) (ds:List D):Prop where
 len:ds.length≤sizeLine
 stop:∀(i:Nat) (H:Hp),bT F H→ds.length≤i→J.stop i H
 go:∀(i:Nat) (d:D) (H:Hp),bT F H→ds[i]?=some d→J.go i H
 IV:∀(i:Nat) (d:D) (H:Hp),bT F H→ds[i]?=some d→∀(x:V) (H':Hp),J.IV i H x H'→∀F1,bT F F1→bT F1 H→∃F2,Ext F1 H F2 H'∧Den K F2 d x
def HI (K:aa) (ev:eA→Option (List D)):TI:=fun σ H R=>∃F ρ ds,bT F H∧Slots K F σ ρ∧ev ρ=some ds∧∀J F' H',Ext F H F' H'→Jp K F' J ds→R J H'
def RD (K:aa) (f:D→D→Option D):R2:=fun x y H Q=>∃F dx dy d,bT F H∧Den K F dx x∧Den K F dy y∧f dx dy=some d∧∀v F' H',Ext F H F' H'→Den K F' d v→Q v H'
section
variable {X:Cx} {e a b:Expr} {es:List Expr} {pos p:Pos} {ea eb:eA→Option D} {el:eA→Option (List D)}
theorem fi {t t':TE} (h:PE X e t) (k:∀σ H Q,t' σ H Q→t σ H Q):PE X e t':=fun pins s σ H Q I q=>h pins s σ H Q I (k σ H Q q)
theorem Gi {t t':TT} (h:PT X e t) (k:∀σ H Q,t' σ H Q→t σ H Q):PT X e t':=fun pins s σ H Q I q=>h pins s σ H Q I (k σ H Q q)
theorem K8 {t t':TT} (h:PW X e t) (k:∀σ H Q,t' σ H Q→t σ H Q):PW X e t':=fun wh pins s σ H Q I q=>h wh pins s σ H Q I (k σ H Q q)
theorem K9 {t t':TA} (h:PA X es t) (k:∀σ H Q,t' σ H Q→t σ H Q):PA X es t':=fun pos pins s σ H Q I q=>h pos pins s σ H Q I (k σ H Q q)
theorem uy {tg:Expr} {t t':TI} (h:PI X tg e t) (k:∀σ H Q,t' σ H Q→t σ H Q):PI X tg e t':=fun pins s σ H Q I q=>h pins s σ H Q I (k σ H Q q)
theorem K_ {x:Option Expr} {t t':TO} (h:PO X x t) (k:∀σ H Q,t' σ H Q→t σ H Q):PO X x t':=fun pins s σ H Q I q=>h pins s σ H Q I (k σ H Q q)
theorem NV {t t':TT} (h:NG X es t) (k:∀σ H Q,t' σ H Q→t σ H Q):NG X es t':=fun pins s σ H Q I q=>h pins s σ H Q I (k σ H Q q)
theorem Bo {α β:Type} {a:Option α} {x:α} {f:α→Option β} {r:Option β} (h:a=some x) (h2:f x=r):a.bind f=r:=by rw [h];exact h2
theorem two {K:aa} {F H:Hp} {σ:L2.St} {ρ:eA} {x y:D} {k:V→V→Hp→Prop} (s:bT F H) (l:Slots K F σ ρ) (ha:ea ρ=some x) (hb:eb ρ=some y)
  (hk:∀v w F' H',Ext F H F' H'→Den K F' x v→Den K F' y w→k v w H'):tM K ea σ H fun v H1=>tM K eb σ H1 fun w H2=>k v w H2 :=
 ⟨F,ρ,x,s,l,ha,fun v F1 H1 e1 d1=>⟨F1,ρ,y,e1.fh,l.mono e1.ff,hb,fun w F2 H2 e2 d2=>hk v w F2 H2 (e1.trans e2) (cT e2.ff x v d1) d2⟩⟩
theorem QH {ρ:eA} {f:D→D→Option D} {d:D} (h:((ea ρ).bind fun x=>(eb ρ).bind fun y=>f x y)=some d):∃x y,ea ρ=some x∧eb ρ=some y∧f x y=some d:=by
 obtain ⟨x,e1,h⟩:=ab.mp h
 obtain ⟨y,e2,h⟩:=ab.mp h
 exact ⟨x,y,e1,e2,h⟩
theorem La {K:aa} {f:D→D→Option D} {σ:L2.St} {H:Hp} {Q:VK} (h:tM K (fun ρ=>(ea ρ).bind fun x=>(eb ρ).bind fun y=>f x y) σ H Q):SD (RD K f) (tM K ea) (tM K eb) σ H Q:=by
 obtain ⟨F,ρ,d,s,l,e,q⟩:=h
 obtain ⟨x,y,e1,e2,e3⟩:=QH e
 exact two s l e1 e2 fun v w F' H' ex d1 d2=>⟨F',x,y,d,ex.fh,d1,d2,e3,fun u F2 H2 iE d3=>q u F2 H2 (ex.trans iE) d3⟩
theorem Tj {i:Nat} {x:Str} (hN:X.N[i]?=some x) (hv:OM X.env.scope x) (hd:(x == ("__debug__" : Str))=false) (Kj:(x == ("__classdict__" : Str))=false):PE X (.Name x pos) (tM X.K fun ρ=>fv ρ i) :=
 fi (BZ hN hv hd Kj) fun σ H Q ⟨F,ρ,d,s,l,e,q⟩=>by
  obtain ⟨v,h1,h2⟩:=l.den i d e
  exact ⟨v,h1,q v F H (.refl s) h2⟩
theorem To {z:Int} {j:Nat}:PE X (.Constant (.int z) j pos) (tM X.K fun _=>some (.int z)) :=
 fi rR fun σ H Q ⟨F,ρ,d,s,l,e,q⟩=>by cases e;exact q _ F H (.refl s) (bO _)
theorem W4 {z:Bool} {j:Nat}:PE X (.Constant (.bool z) j pos) (tM X.K fun _=>some (.bl z)) :=
 fi Sf fun σ H Q ⟨F,ρ,d,s,l,e,q⟩=>by cases e;exact q _ F H (.refl s) (mB _)
theorem Tp {j:Nat}:PE X (.Constant .none j pos) (tM X.K fun _=>some .gg) :=
 fi PQ fun σ H Q ⟨F,ρ,d,s,l,e,q⟩=>by cases e;exact q _ F H (.refl s) K7
def kJ (K:aa) (mg:Str→Option Value) (x:Str) (d:D):Prop:=∃u v,mg x=some u∧RelV v u∧∀F,Den K F d v
theorem W5 {x:Str} {d:D} (hg:Gl X x) (h:kJ X.K X.mg x d) (hd:(x == ("__debug__" : Str))=false):PE X (.Name x pos) (tM X.K fun _=>some d):=by
 obtain ⟨u,v,h1,h2,h3⟩:=h
 exact fi (Nh hg h1 h2 hd) fun σ H Q ⟨F,ρ,d,s,l,e,q⟩=>by cases e;exact q _ F H (.refl s) (h3 F)
theorem W6 {op:Operator} {f:D→D→Option D} (ho:ka X (binaryOp op) (RD X.K f)) (ha:PE X a (tM X.K ea)) (hb:PE X b (tM X.K eb)):PE X (.BinOp a op b pos) (tM X.K fun ρ=>(ea ρ).bind fun x=>(eb ρ).bind fun y=>f x y) :=
 fi (xI ho ha hb) fun _ _ _ h=>La h
theorem Tq {op:CmpOp} {f:D→D→Option D} (ho:ka X (compareOp op) (RD X.K f)) (ha:PE X a (tM X.K ea)) (hb:PE X b (tM X.K eb)) (hm:behindInMarks op b=false):PE X (.Compare a [op] [b] pos) (tM X.K fun ρ=>(ea ρ).bind fun x=>(eb ρ).bind fun y=>f x y) :=
 fi (Nr ho ha hb hm) fun _ _ _ h=>La h
theorem O0 {K:aa} {ev:eA→Option D} {σ:L2.St} {H:Hp} {Q:Bool→Hp→Prop} (h:sR K (fun ρ=>(ev ρ).bind fB) σ H Q):tM K ev σ H fun x H1=>∃c,x=.bl c∧Q c H1:=by
 obtain ⟨F,ρ,b,s,l,e,q⟩:=h
 obtain ⟨d,e1,e2⟩:=ab.mp e
 have e3:d=.bl b:=by cases d<;>simp [fB] at e2;rw [e2]
 subst e3
 exact ⟨F,ρ,_,s,l,e1,fun v F' H' ex dn=>⟨b,uw dn,q F' H' ex⟩⟩
theorem QI {op:CmpOp} {f:D→D→Option D} (ho:ka X (compareOp op) (RD X.K f)) (ha:PE X a (tM X.K ea)) (hb:PE X b (tM X.K eb)) (hm:behindInMarks op b=false):PT X (.Compare a [op] [b] pos) (sR X.K fun ρ=>((ea ρ).bind fun x=>(eb ρ).bind fun y=>f x y).bind fB) :=
 Gi (Hm ho ha hb hm) fun _ _ _ h=>La (O0 h)
theorem gO {ev:eA→Option D} (h:PE X e (tM X.K ev)) (he:∀whole,isTrue e X.env whole=(do let v ←whole;standAt e.pos;holding [v] (truthy v))):PT X e (sR X.K fun ρ=>(ev ρ).bind fB) :=
 Gi (PR h he) fun _ _ _ q=>O0 q
theorem Tr {ev:eA→Option D} (h:PE X e (tM X.K ev)):PE X (.UnaryOp .Not e pos) (tM X.K fun ρ=>(ev ρ).bind K4) :=
 fi (PZ h) fun σ H Q ⟨F,ρ,d,s,l,e,q⟩=>by
  obtain ⟨x,e1,e2⟩:=ab.mp e
  obtain ⟨b,rfl,rfl⟩:∃b,x=.bl b∧d=.bl !b:=by cases x<;>simp [K4] at e2;exact ⟨_,rfl,e2.symm⟩
  exact ⟨F,ρ,_,s,l,e1,fun v F' H' ex dn=>⟨b,uw dn,q _ F' H' ex (mB _)⟩⟩
theorem QJ {ev:eA→Option D} (h:PT X e (sR X.K fun ρ=>(ev ρ).bind fB)):PT X (.UnaryOp .Not e pos) (sR X.K fun ρ=>((ev ρ).bind K4).bind fB) :=
 Gi (PX h) fun σ H Q ⟨F,ρ,b,s,l,e,q⟩=>by
  obtain ⟨y,e1,e2⟩:=ab.mp e
  obtain ⟨x,e3,e4⟩:=ab.mp e1
  obtain ⟨c,rfl,rfl⟩:∃c,x=.bl c∧y=.bl !c:=by cases x<;>simp [K4] at e4;exact ⟨_,rfl,e4.symm⟩
  have e5:(!c)=b:=by simpa [fB] using e2
  subst e5
  exact ⟨F,ρ,c,s,l,Bo e3 rfl,q⟩
theorem Ts {c:Expr} {ec:eA→Option D} (hc:PT X c (sR X.K fun ρ=>(ec ρ).bind fB)) (ha:PE X a (tM X.K ea)) (hb:PE X b (tM X.K eb)) :
  PE X (.IfExp c a b pos) (tM X.K fun ρ=>(ec ρ).bind fun x=>(fB x).bind fun k=>match k with|true=>ea ρ|false=>eb ρ) :=
 fi (Km hc ha hb) fun σ H Q ⟨F,ρ,d,s,l,e,q⟩=>by
  obtain ⟨x,e1,e2⟩:=ab.mp e
  obtain ⟨k,e3,e4⟩:=ab.mp e2
  refine ⟨F,ρ,k,s,l,Bo e1 e3,fun F' H' ex=>?_⟩
  cases k with
  | true=>exact ⟨F',ρ,d,ex.fh,l.mono ex.ff,e4,fun v F2 H2 iE dn=>q v F2 H2 (ex.trans iE) dn⟩
  | false=>exact ⟨F',ρ,d,ex.fh,l.mono ex.ff,e4,fun v F2 H2 iE dn=>q v F2 H2 (ex.trans iE) dn⟩
theorem Tt {rest:List Expr} (ha:PE X a (tM X.K ea)) (hb:PE X (.BoolOp .And (b::rest) pos) (tM X.K eb)) :
  PE X (.BoolOp .And (a::b::rest) pos) (tM X.K fun ρ=>(ea ρ).bind fun x=>(fB x).bind fun k=>match k with|true=>eb ρ|false=>some (.bl false)) :=
 fi (PY ha hb) fun σ H Q ⟨F,ρ,d,s,l,e,q⟩=>by
  obtain ⟨x,e1,e2⟩:=ab.mp e
  obtain ⟨k,e3,e4⟩:=ab.mp e2
  have W7:x=.bl k:=by cases x<;>simp [fB] at e3;rw [e3]
  subst W7
  refine ⟨F,ρ,_,s,l,e1,fun v F' H' ex dn=>⟨k,uw dn,?_⟩⟩
  cases k with
  | true=>exact ⟨F',ρ,d,ex.fh,l.mono ex.ff,e4,fun v F2 H2 iE dn=>q v F2 H2 (ex.trans iE) dn⟩
  | false=>cases e4;exact q _ F' H' ex (mB _)
theorem W8 {rest:List Expr} (ha:PE X a (tM X.K ea)) (hb:PE X (.BoolOp .Or (b::rest) pos) (tM X.K eb)) :
  PE X (.BoolOp .Or (a::b::rest) pos) (tM X.K fun ρ=>(ea ρ).bind fun x=>(fB x).bind fun k=>match k with|true=>some (.bl true)|false=>eb ρ) :=
 fi (Sj ha hb) fun σ H Q ⟨F,ρ,d,s,l,e,q⟩=>by
  obtain ⟨x,e1,e2⟩:=ab.mp e
  obtain ⟨k,e3,e4⟩:=ab.mp e2
  have W7:x=.bl k:=by cases x<;>simp [fB] at e3;rw [e3]
  subst W7
  refine ⟨F,ρ,_,s,l,e1,fun v F' H' ex dn=>⟨k,uw dn,?_⟩⟩
  cases k with
  | false=>exact ⟨F',ρ,d,ex.fh,l.mono ex.ff,e4,fun v F2 H2 iE dn=>q v F2 H2 (ex.trans iE) dn⟩
  | true=>cases e4;exact q _ F' H' ex (mB _)
theorem QK {rest:List Expr} (ha:PT X a (sR X.K fun ρ=>(ea ρ).bind fB)) (hb:PW X (.BoolOp .And (b::rest) pos) (sR X.K fun ρ=>(eb ρ).bind fB)) :
  PW X (.BoolOp .And (a::b::rest) pos) (sR X.K fun ρ=>((ea ρ).bind fun x=>(fB x).bind fun k=>match k with|true=>eb ρ|false=>some (.bl false)).bind fB) :=
 K8 (PV ha hb) fun σ H Q ⟨F,ρ,r,s,l,e,q⟩=>by
  obtain ⟨d,e0,e5⟩:=ab.mp e
  obtain ⟨x,e1,e2⟩:=ab.mp e0
  obtain ⟨k,e3,e4⟩:=ab.mp e2
  refine ⟨F,ρ,k,s,l,Bo e1 e3,fun F' H' ex=>?_⟩
  cases k with
  | true=>exact ⟨F',ρ,r,ex.fh,l.mono ex.ff,(by show (eb ρ).bind fB=some r;rw [show eb ρ=some d from e4];exact e5),fun F2 H2 iE=>q F2 H2 (ex.trans iE)⟩
  | false =>
   cases e4
   cases e5
   exact q F' H' ex
theorem Tu {rest:List Expr} (ha:PT X a (sR X.K fun ρ=>(ea ρ).bind fB)) (hb:PW X (.BoolOp .Or (b::rest) pos) (sR X.K fun ρ=>(eb ρ).bind fB)) :
  PW X (.BoolOp .Or (a::b::rest) pos) (sR X.K fun ρ=>((ea ρ).bind fun x=>(fB x).bind fun k=>match k with|true=>some (.bl true)|false=>eb ρ).bind fB) :=
 K8 (Sg ha hb) fun σ H Q ⟨F,ρ,r,s,l,e,q⟩=>by
  obtain ⟨d,e0,e5⟩:=ab.mp e
  obtain ⟨x,e1,e2⟩:=ab.mp e0
  obtain ⟨k,e3,e4⟩:=ab.mp e2
  refine ⟨F,ρ,k,s,l,Bo e1 e3,fun F' H' ex=>?_⟩
  cases k with
  | false=>exact ⟨F',ρ,r,ex.fh,l.mono ex.ff,(by show (eb ρ).bind fB=some r;rw [show eb ρ=some d from e4];exact e5),fun F2 H2 iE=>q F2 H2 (ex.trans iE)⟩
  | true =>
   cases e4
   cases e5
   exact q F' H' ex
theorem zY {f:Value→Value→Sem Value} {g:D→D→Option D} {r:R2} (ho:ka X f r)
  (inv:∀dx dy d,g dx dy=some d→∃i j,dx=.int i∧dy=.int j∧(∀H Q,(∀(v:V),(∀F,Den X.K F d v)→Q v H)→r (.int i) (.int j) H Q)):ka X f (RD X.K g):=by
 rintro pins s σ H x y v u Q I rx ry ⟨F,dx,dy,d,sm,d1,d2,e,q⟩
 obtain ⟨i,j,rfl,rfl,k⟩:=inv dx dy d e
 obtain rfl:=bD d1
 obtain rfl:=bD d2
 exact ho pins s σ H _ _ v u Q I rx ry (k H Q fun v hv=>q v F H (.refl sm) (hv F))
theorem Tv:ka X (binaryOp .Add) (RD X.K (iA .add)):=by
 rintro pins s σ H x y v u Q I rx ry ⟨F,dx,dy,d,sm,d1,d2,e,q⟩
 cases dx<;>cases dy<;>simp only [iA,reduceCtorEq] at e
 ·cases e
  obtain rfl:=bD d1
  obtain rfl:=bD d2
  exact Ky pins s σ H _ _ v u Q I rx ry ⟨_,_,rfl,rfl,q _ F H (.refl sm) (bO _)⟩
 ·rename_i a b
  obtain ⟨z1,l1,v1,rfl,h1,r1⟩:=dd d1
  obtain ⟨z2,l2,v2,rfl,h2,r2⟩:=dd d2
  by_cases hz:a.length+b.length≤sizeLine
  ·rw [if_pos hz] at e
   cases e
   refine B8 pins s σ H _ _ v u Q I rx ry ⟨l1,l2,v1,v2,rfl,rfl,sm _ _ h1,sm _ _ h2,by rw [←bM r1,←bM r2];exact hz,fun p hp=>?_⟩
   have ex:=Ext.new sm hp (.lst (v1++v2))
   exact q _ _ _ ex (f9 (by rw [ax];exact hz) aK (cD ex.ff _ _ (jl r1 r2)))
  ·rw [if_neg hz] at e;cases e
theorem Tw:ka X (binaryOp .Sub) (RD X.K (iA .sub)):=zY P_ fun dx dy d e=>by
 cases dx<;>cases dy<;>simp only [iA,reduceCtorEq] at e
 cases e
 exact ⟨_,_,rfl,rfl,fun H Q k=>⟨_,_,rfl,rfl,k _ fun _=>bO _⟩⟩
theorem Tz:ka X (binaryOp .Mult) (RD X.K (iA .mul)):=by
 rintro pins s σ H x y v u Q I rx ry ⟨F,dx,dy,d,sm,d1,d2,e,q⟩
 cases dx<;>cases dy<;>simp only [iA,reduceCtorEq] at e
 ·rename_i i j
  by_cases hz:-(2 ^ 64) < i∧i < 2 ^ 64
  ·rw [if_pos hz] at e
   cases e
   obtain rfl:=bD d1
   obtain rfl:=bD d2
   exact Qa pins s σ H _ _ v u Q I rx ry ⟨_,_,rfl,rfl,.inl hz,q _ F H (.refl sm) (bO _)⟩
  ·rw [if_neg hz] at e;cases e
 ·rename_i a k
  by_cases hz:k < 2 ^ 24∧-(2 ^ 24) < k∧a.length*k.toNat≤sizeLine
  ·rw [if_pos hz] at e
   cases e
   obtain ⟨z1,l1,v1,rfl,h1,r1⟩:=dd d1
   obtain rfl:=bD d2
   have hl:=bM r1
   refine Ga pins s σ H _ _ v u Q I rx ry ⟨l1,k,v1,rfl,rfl,sm _ _ h1,by omega,by omega,by rw [←hl];exact hz.2.2,fun p hp=>?_⟩
   have ex:=Ext.new sm hp (.lst (aG k.toNat v1).flatten)
   exact q _ _ _ ex (f9 (by rw [len_rep,eM];exact hz.2.2) aK (cD ex.ff _ _ (Ec r1 _)))
  ·rw [if_neg hz] at e;cases e
theorem QL:ka X (binaryOp .FloorDiv) (RD X.K (iA .fdiv)):=zY Nq fun dx dy d e=>by
 cases dx<;>cases dy<;>simp only [iA,reduceCtorEq] at e
 rename_i i j
 by_cases hz:0 < j∧j < 1073741824
 ·rw [if_pos hz] at e
  cases e
  exact ⟨_,_,rfl,rfl,fun H Q k=>⟨_,_,rfl,rfl,hz,k _ fun _=>bO _⟩⟩
 ·rw [if_neg hz] at e;cases e
theorem TB:ka X (binaryOp .Mod) (RD X.K (iA .mod)):=zY Qb fun dx dy d e=>by
 cases dx<;>cases dy<;>simp only [iA,reduceCtorEq] at e
 rename_i i j
 by_cases hz:0 < j
 ·rw [if_pos hz] at e
  cases e
  exact ⟨_,_,rfl,rfl,fun H Q k=>⟨_,_,rfl,rfl,hz,k _ fun _=>bO _⟩⟩
 ·rw [if_neg hz] at e;cases e
theorem TC:ka X (binaryOp .LShift) (RD X.K (iA .shl)):=zY Qc fun dx dy d e=>by
 cases dx<;>cases dy<;>simp only [iA,reduceCtorEq] at e
 rename_i i j
 by_cases hz:0≤j∧j≤1000000∧i.natAbs < 2 ^ 64
 ·rw [if_pos hz] at e
  cases e
  exact ⟨_,_,rfl,rfl,fun H Q k=>⟨_,_,rfl,rfl,hz,k _ fun _=>bO _⟩⟩
 ·rw [if_neg hz] at e;cases e
theorem TF:ka X (binaryOp .BitOr) (RD X.K (iA .bor)):=zY SF fun dx dy d e=>by
 cases dx<;>cases dy<;>simp only [iA,reduceCtorEq] at e
 cases e
 exact ⟨_,_,rfl,rfl,fun H Q k=>⟨_,_,rfl,rfl,k _ fun _=>bO _⟩⟩
theorem QM:ka X (binaryOp .BitAnd) (RD X.K (iA .band)):=zY Qd fun dx dy d e=>by
 cases dx<;>cases dy<;>simp only [iA,reduceCtorEq] at e
 cases e
 exact ⟨_,_,rfl,rfl,fun H Q k=>⟨_,_,rfl,rfl,k _ fun _=>bO _⟩⟩
theorem W9:ka X (compareOp .Lt) (RD X.K (iA .lt)):=zY OR fun dx dy d e=>by
 cases dx<;>cases dy<;>simp only [iA,reduceCtorEq] at e
 cases e
 exact ⟨_,_,rfl,rfl,fun H Q k=>⟨_,_,rfl,rfl,k _ fun _=>mB _⟩⟩
theorem W_:ka X (compareOp .LtE) (RD X.K (iA .le)):=zY SI fun dx dy d e=>by
 cases dx<;>cases dy<;>simp only [iA,reduceCtorEq] at e
 cases e
 exact ⟨_,_,rfl,rfl,fun H Q k=>⟨_,_,rfl,rfl,k _ fun _=>mB _⟩⟩
theorem Xd:ka X (compareOp .Gt) (RD X.K (iA .gt)):=zY SJ fun dx dy d e=>by
 cases dx<;>cases dy<;>simp only [iA,reduceCtorEq] at e
 cases e
 exact ⟨_,_,rfl,rfl,fun H Q k=>⟨_,_,rfl,rfl,k _ fun _=>mB _⟩⟩
theorem Xe:ka X (compareOp .GtE) (RD X.K (iA .ge)):=zY SK fun dx dy d e=>by
 cases dx<;>cases dy<;>simp only [iA,reduceCtorEq] at e
 cases e
 exact ⟨_,_,rfl,rfl,fun H Q k=>⟨_,_,rfl,rfl,k _ fun _=>mB _⟩⟩
def jK (ns:List Int):List PyData:=ns.map PyData.int
theorem vq:∀(x y:List Int),PyData.eqvAll (jK x) (jK y)=decide (x=y)
 | [],[]=>by simp [jK,PyData.eqvAll]
 | [],b::y=>by simp [jK,PyData.eqvAll]
 | a::x,[]=>by simp [jK,PyData.eqvAll]
 | a::x,b::y=>by
  have ih:=vq x y
  unfold jK at ih ⊢
  simp only [aN,PyData.eqvAll,PyData.eqv,ih]
  by_cases h1:a=b<;>by_cases h2:x=y<;>simp [h1,h2]
theorem rY {K:aa} {H:Hp}:∀ns:List Int,xN K H (ns.map V.int) (jK ns)
 | []=>.nil
 | n::ns=>.cons (.int n) (rY ns)
theorem NW {dx dy:D} {c:Bool} (h:Te dx dy=some c):(∃i j,dx=.int i∧dy=.int j∧c=decide (i=j))∨(∃i j,dx=.bl i∧dy=.bl j∧c=decide (i=j)) ∨
  ∃a b x y,dx=.lst a∧dy=.lst b∧intsOf a=some x∧intsOf b=some y∧c=decide (x=y):=by
 cases dx<;>cases dy<;>simp only [Te,reduceCtorEq,bA.injEq] at h
 ·exact .inr (.inl ⟨_,_,rfl,rfl,h.symm⟩)
 ·exact .inl ⟨_,_,rfl,rfl,h.symm⟩
 ·obtain ⟨x,e1,h⟩:=ab.mp h
  obtain ⟨y,e2,h⟩:=ab.mp h
  exact .inr (.inr ⟨_,_,x,y,rfl,rfl,e1,e2,(bA.inj h).symm⟩)
theorem vt:∀ns:List Int,PyData.canLayAll0 (jK ns)=true
 | []=>by simp [jK,PyData.canLayAll0]
 | n::ns=>by
  have ih:=vt ns
  unfold jK at ih ⊢
  rw [aN,PyData.canLayAll0,ih]
  simp [PyData.canLay0]
theorem xW:∀ns:List Int,PyData.depthAll (jK ns)=0
 | []=>by simp [jK,PyData.depthAll]
 | n::ns=>by
  have ih:=xW ns
  unfold jK at ih ⊢
  rw [aN,PyData.depthAll,ih]
  simp [PyData.depth]
theorem shaped_ints (ns:List Int):SeqAt.shaped (.list (jK ns))=true:=by
 unfold SeqAt.shaped
 simp [PyData.canLay0,vt,PyData.depth,xW]
theorem O3 {op:CmpOp} {k:Bool→Bool} (hs:ka X (compareOp op) (fun x y H Q=>Qg x y=true∧Q (.bl (k (decide (x=y)))) H)) (hd:ka X (compareOp op) (fun x y H Q=>∃d e,Dp X.K H x d∧Dp X.K H y e∧SeqAt.shaped d=true∧SeqAt.shaped e=true∧Q (.bl (k (PyData.eqv d e))) H)) :
  ka X (compareOp op) (RD X.K fun a b=>(Te a b).bind fun c=>some (.bl (k c))):=by
 rintro pins s σ H x y v u Q I rx ry ⟨F,dx,dy,d,sm,d1,d2,e,q⟩
 obtain ⟨c,e1,e2⟩:=ab.mp e
 cases e2
 rcases NW e1 with ⟨i,j,rfl,rfl,rfl⟩|⟨i,j,rfl,rfl,rfl⟩|⟨a,b,m,n,rfl,rfl,ha,hb,rfl⟩
 ·obtain rfl:=bD d1
  obtain rfl:=bD d2
  refine hs pins s σ H _ _ v u Q I rx ry ⟨rfl,?_⟩
  have z:decide (V.int i=V.int j)=decide (i=j):=by simp
  rw [z]
  exact q _ F H (.refl sm) (mB _)
 ·obtain rfl:=uw d1
  obtain rfl:=uw d2
  refine hs pins s σ H _ _ v u Q I rx ry ⟨rfl,?_⟩
  have z:decide (V.bl i=V.bl j)=decide (i=j):=by simp
  rw [z]
  exact q _ F H (.refl sm) (mB _)
 ·obtain ⟨z1,l1,v1,rfl,h1,r1⟩:=dd d1
  obtain ⟨z2,l2,v2,rfl,h2,r2⟩:=dd d2
  have q1:=lW ha r1
  have q2:=lW hb r2
  subst q1 q2
  refine hd pins s σ H _ _ v u Q I rx ry ⟨.list (jK m),.list (jK n),.lst (eS.of (sm _ _ h1)) (rY m),.lst (eS.of (sm _ _ h2)) (rY n),shaped_ints m,shaped_ints n,?_⟩
  have z:PyData.eqv (.list (jK m)) (.list (jK n))=decide (m=n):=by rw [←vq];simp [PyData.eqv]
  rw [z]
  exact q _ F H (.refl sm) (mB _)
theorem Xf (hu:X.A.units+64 < cLine):ka X (compareOp .Eq) (RD X.K (iA .eq)):=by
 have h:=O3 (X:=X) (k:=id) SG (Qt hu)
 rintro pins s σ H x y v u Q I rx ry ⟨F,dx,dy,d,sm,d1,d2,e,q⟩
 exact h pins s σ H x y v u Q I rx ry ⟨F,dx,dy,d,sm,d1,d2,e,q⟩
theorem Xg (hu:X.A.units+64 < cLine):ka X (compareOp .NotEq) (RD X.K (iA .ne)):=by
 have h:=O3 (X:=X) (k:=not) SH (Qu hu)
 rintro pins s σ H x y v u Q I rx ry ⟨F,dx,dy,d,sm,d1,d2,e,q⟩
 exact h pins s σ H x y v u Q I rx ry ⟨F,dx,dy,d,sm,d1,d2,e,q⟩
theorem Ed (i:Int):∀ns:List Int,SW (.int i) (ns.map V.int)=decide (i∈ns)
 | []=>by simp [SW]
 | n::ns=>by
  have ih:=Ed i ns
  unfold SW at ih ⊢
  rw [aN,lS,ih]
  by_cases h:i=n
  ·subst h;simp [MW]
  ·have h':¬n=i:=fun z=>h z.symm
   simp [MW,h,h']
theorem Bp:∀ns:List Int,(ns.map V.int).all sG=true
 | []=>rfl
 | n::ns=>by rw [aN,dk,Bp ns];rfl
theorem NX {dx dy:D} {c:Bool} (h:inD dx dy=some c):∃i b y,dx=.int i∧(dy=.lst b∨dy=.tup b)∧intsOf b=some y∧c=decide (i∈y):=by
 cases dx<;>cases dy<;>simp only [inD,reduceCtorEq] at h
 ·obtain ⟨y,e2,h⟩:=ab.mp h
  exact ⟨_,_,y,rfl,.inl rfl,e2,(bA.inj h).symm⟩
 ·obtain ⟨y,e2,h⟩:=ab.mp h
  exact ⟨_,_,y,rfl,.inr rfl,e2,(bA.inj h).symm⟩
theorem TH {K:aa} {F H:Hp} {b:List D} {dy:D} {y:V} (sm:bT F H) (hd:dy=.lst b∨dy=.tup b) (h:Den K F dy y):∃p vs,y=.ref p∧(eS K H p vs∨xG K H p vs)∧cG K F b vs:=by
 rcases hd with rfl|rfl
 ·obtain ⟨z1,l1,v1,rfl,h1,r1⟩:=dd h
  exact ⟨l1,v1,rfl,.inl (eS.of (sm _ _ h1)),r1⟩
 ·obtain ⟨l1,v1,rfl,h1,r1⟩:=qE h
  exact ⟨l1,v1,rfl,.inr (l5 sm h1),r1⟩
theorem O4 {op:CmpOp} {neg:Bool} (hs:ka X (compareOp op) (Wj X.K neg)):ka X (compareOp op) (RD X.K fun a b=>(inD a b).bind fun c=>some (.bl (if neg then !c else c))):=by
 rintro pins s σ H x y v u Q I rx ry ⟨F,dx,dy,d,sm,d1,d2,e,q⟩
 obtain ⟨c,e1,e2⟩:=ab.mp e
 cases e2
 obtain ⟨i,b,n,rfl,hb,hn,rfl⟩:=NX e1
 obtain rfl:=bD d1
 obtain ⟨p,vs,rfl,hq,r⟩:=TH sm hb d2
 have q2:=lW hn r
 subst q2
 refine hs pins s σ H _ _ v u Q I rx ry ⟨p,_,rfl,hq,rfl,Bp n,?_⟩
 rw [Ed]
 exact q _ F H (.refl sm) (mB _)
theorem Xh:ka X (compareOp .In) (RD X.K (iA .isin)):=by
 have h:=O4 (X:=X) Je
 rintro pins s σ H x y v u Q I rx ry ⟨F,dx,dy,d,sm,d1,d2,e,q⟩
 exact h pins s σ H x y v u Q I rx ry ⟨F,dx,dy,d,sm,d1,d2,e,q⟩
theorem NY:ka X (compareOp .NotIn) (RD X.K (iA .rF)):=by
 have h:=O4 (X:=X) B7
 rintro pins s σ H x y v u Q I rx ry ⟨F,dx,dy,d,sm,d1,d2,e,q⟩
 exact h pins s σ H x y v u Q I rx ry ⟨F,dx,dy,d,sm,d1,d2,e,q⟩
end
end Mi
namespace Mi
open PySem PySem.Spec PyProof.Rows L2
def plain:Expr→Bool
 | .Name ..=>true
 | .Constant ..=>true
 | .BinOp ..=>true
 | .UnaryOp ..=>true
 | .BoolOp ..=>true
 | .Compare ..=>true
 | .Call ..=>true
 | .Attribute ..=>true
 | .Subscript ..=>true
 | .List ..=>true
 | .Tuple ..=>true
 | .ListComp ..=>true
 | .IfExp ..=>true
 | _=>false
theorem cY {x:Expr} {es:List Expr} {env:Env} (h:plain x=true):starEach (x::es) env=(false,eval x env)::starEach es env:=by
 cases x<;>first|rfl|(simp [plain] at h)
theorem mG {env:Env} {pos:Pos}:∀{es:List Expr},es.all plain=true→(backTo pos (starEach es env)).any (·.1)=false
 | [],_=>rfl
 | x::es,h=>by
  rw [dk,ag] at h
  rw [cY h.1]
  have ih:=mG (env:=env) (pos:=pos) h.2
  show (false||(backTo pos (starEach es env)).any (·.1))=false
  rw [ih];rfl
theorem xX {x:Expr} (op:CmpOp) (h:plain x=true):behindInMarks op x=false:=by
 cases x<;>first|rfl|(simp [plain] at h)
theorem ot {x:Expr} {env:Env} (h:plain x=true):∀v,foldedSetIterable x env v=pure v:=by
 intro v
 cases x<;>first|rfl|(simp [plain] at h)
theorem Lb {x:Expr} (h:plain x=true):Hu x:=by
 intro o i
 cases x<;>first|rfl|(simp [plain] at h)
def based:Expr→Bool
 | .Name ..=>true
 | .Attribute ..=>true
 | .Subscript ..=>true
 | _=>false
theorem xY {x:Expr} {f:Str} {env:Env} (h:based x=true):attributeBase x f env (eval x env)=eval x env:=by
 cases x<;>first|rfl|(simp [based] at h)
section
variable {X:Cx} {e a b:Expr} {es:List Expr} {pos p:Pos} {ea eb ev:eA→Option D} {el:eA→Option (List D)}
theorem Ee {K:aa} {F:Hp} {C:Addr} {gs:List (Str×V)} {f:Str}:∀{ns:List Str} {ds:List D} {vs:List V} {d:D},look f ns ds=some d→MY K C gs ns vs→cG K F ds vs→∃v,iY K C f∧gs.lookup f=some v∧Den K F d v
 | [],_,_,_,h,_,_=>by simp [look] at h
 | _::_,[],_,_,h,_,_=>by simp [look] at h
 | n::ns,x::ds,vs,d,h,h1,h2=>by
  obtain ⟨v,r,rfl,d1,d2⟩:=bJ h2
  unfold MY at h1
  obtain ⟨v',r',e,na,lk,fr⟩:=h1
  cases e
  unfold look at h
  by_cases hn:n=f
  ·rw [if_pos hn] at h
   cases h
   subst hn
   exact ⟨v,na,lk,d1⟩
  ·rw [if_neg hn] at h
   exact Ee h fr d2
theorem TJ {f:Str} (h:PE X e (tM X.K ev)) (hb:based e=true):PE X (.Attribute e f pos) (tM X.K fun ρ=>(ev ρ).bind fun x=>pX x f) :=
 fi (jL h (xY hb)) fun σ H Q ⟨F,ρ,d,s,l,e,q⟩=>by
  obtain ⟨x,e1,e2⟩:=ab.mp e
  refine ⟨F,ρ,x,s,l,e1,fun v F' H' ex dn=>?_⟩
  cases x<;>simp only [pX,reduceCtorEq] at e2
  unfold Den at dn
  obtain ⟨a,C,dx,gs,vs,rfl,ha,c,fd,dl⟩:=dn
  obtain ⟨w,na,lk,dw⟩:=Ee e2 fd dl
  exact ⟨a,C,dx,gs,w,rfl,ex.fh _ _ ha,c,na,lk,q w F' H' ex dw⟩
theorem pY:PA X [] (HH X.K fun _=>some []):=K9 cx fun σ H Q ⟨F,ρ,d,s,l,e,q⟩=>by cases e;exact q _ F H (.refl s) bU
theorem jP (ha:PE X a (tM X.K ea)) (hr:PA X es (HH X.K el)) (h:plain a=true):PA X (a::es) (HH X.K fun ρ=>(ea ρ).bind fun x=>(el ρ).bind fun xs=>some (x::xs)) :=
 K9 (bp ha hr (cY h)) fun σ H Q ⟨F,ρ,d,s,l,e,q⟩=>by
  obtain ⟨x,e1,e2⟩:=ab.mp e
  obtain ⟨xs,e3,e4⟩:=ab.mp e2
  cases e4
  exact ⟨F,ρ,x,s,l,e1,fun v F1 H1 jQ d1=>⟨F1,ρ,xs,jQ.fh,l.mono jQ.ff,e3,fun vs F2 H2 iE d2=>q _ F2 H2 (jQ.trans iE) (bB (cT iE.ff _ _ d1) d2)⟩⟩
def MZ (K:aa) (n:Nat) (g:List D→Option D):Sp:=fun vs H Q _=>vs.length=n∧∃F ds d,bT F H∧cG K F ds vs∧g ds=some d∧∀v F' H',Ext F H F' H'→Den K F' d v→Q v H'
structure Cc where
 P:Program
 w:World
 K:aa
 mg:Str→Option Value
 base:Heap
 k:Nat
structure fH (c:Cc) (x:Str) (g:List D→Option D):Prop where
 ex:∃(f:Addr) (fd:FuncData) (ps:List Str),eI c.P c.w c.K c.mg c.base ia c.k f fd ps (MZ c.K ps.length g)∧c.mg x=some (.ref f)∧dt c.K (.ref f)=true∧Binds c.K fd ps []∧∀ds d,g ds=some d→ds.length=ps.length
def Cx.cc (X:Cx) (k:Nat):Cc:=⟨X.prog,X.w,X.K,X.mg,X.base,k⟩
theorem QN {x:Str} {g:List D→Option D} {k:Nat} (F:fH (Cx.cc X k) x g) (hr:jI k X.A) (hg:Gl X x) (ha:PA X es (HH X.K el)) (hp:es.all plain=true) (kI:es≠[]) (F7:(x == ("__debug__" : Str))=false) :
  PE X (.Call (.Name x p) es [] pos) (tM X.K fun ρ=>(el ρ).bind g):=by
 obtain ⟨f,fd,ps,F,hm,hk,hb,Z8⟩:=F.ex
 have imp:∀σ H Q,tM X.K (fun ρ=>(el ρ).bind g) σ H Q→Hq (MZ X.K ps.length g) [] E0 (HH X.K el) σ H Q:=fun σ H Q ⟨F,ρ,d,s,l,e,q⟩=>by
  obtain ⟨xs,e1,e2⟩:=ab.mp e
  refine ⟨F,ρ,xs,s,l,e1,fun vs F1 H1 jQ d1=>?_⟩
  show MZ X.K ps.length g (vs++[]) H1 Q E0
  rw [fT]
  exact ⟨by rw [←bM d1];exact Z8 _ _ e2,F1,xs,d,jQ.fh,d1,e2,fun v F2 H2 iE d2=>q v F2 H2 (jQ.trans iE) d2⟩
 cases es with
 | nil=>exact absurd rfl kI
 | cons a es =>
  rw [dk,ag] at hp
  exact fi (Hr F hr hg hm hk hb .nil K0 ha F7 (cY hp.1) (mG hp.2)) imp
def J8 (K:aa) (ev:eA→Option (List D)):TE:=fun σ H Q=>∃F ρ l,bT F H∧Slots K F σ ρ∧ev ρ=some l ∧
 ∀p vs F' H',Ext F H F' H'→H p=none→F' p=none→H' p=some (.lst vs)→l.length≤sizeLine→cG K F' l vs→Q (.ref p) H'
theorem QO {K:aa} {ev:eA→Option (List D)} {σ:L2.St} {H:Hp} {Q:VK} (h:tM K (fun ρ=>(ev ρ).bind fun l=>some (.lst l)) σ H Q):J8 K ev σ H Q:=by
 obtain ⟨F,ρ,d,s,sl,e,q⟩:=h
 obtain ⟨l,e1,e2⟩:=ab.mp e
 cases e2
 exact ⟨F,ρ,l,s,sl,e1,fun p vs F' H' ex hp fp hv hz dl=>q (.ref p) (upd F' p (.lst vs)) H' (ex.adopt hp hv fp) (f9 hz aK (cD (d8 fp _) _ _ dl))⟩
theorem O5 (h:PA X es (HH X.K el)) (hl:∀ρ ds,el ρ=some ds→ds.length≤sizeLine):PE X (.List es pos) (J8 X.K el) :=
 fi (uk h) fun σ H Q ⟨F,ρ,xs,s,l,e1,q⟩ =>
  ⟨F,ρ,xs,s,l,e1,fun vs F1 H1 jQ d1=>⟨by rw [←bM d1];exact hl _ _ e1,fun p hp=>q p vs F1 _ (jQ.trans (Ext.Ti jQ.fh hp _)) (same_none jQ.hh hp) (same_none jQ.fh hp) aK (hl _ _ e1) d1⟩⟩
theorem TK (h:PA X es (HH X.K el)) (hl:∀ρ ds,el ρ=some ds→ds.length≤sizeLine):PE X (.List es pos) (tM X.K fun ρ=>(el ρ).bind fun ds=>some (.lst ds)) :=
 fi (uk h) fun σ H Q ⟨F,ρ,d,s,l,e,q⟩=>by
  obtain ⟨xs,e1,e2⟩:=ab.mp e
  cases e2
  refine ⟨F,ρ,xs,s,l,e1,fun vs F1 H1 jQ d1=>⟨by rw [←bM d1];exact hl _ _ e1,fun p hp=>?_⟩⟩
  have iE:=Ext.new jQ.fh hp (.lst vs)
  exact q _ _ _ (jQ.trans iE) (f9 (hl _ _ e1) aK (cD iE.ff _ _ d1))
theorem TM {k:Nat} (h:PA X es (HH X.K el)) (hl:∀ρ ds,el ρ=some ds→ds.length≤sizeLine):PE X (.Tuple es k pos) (tM X.K fun ρ=>(el ρ).bind fun ds=>some (.tup ds)) :=
 fi (KC h) fun σ H Q ⟨F,ρ,d,s,l,e,q⟩=>by
  obtain ⟨xs,e1,e2⟩:=ab.mp e
  cases e2
  refine ⟨F,ρ,xs,s,l,e1,fun vs F1 H1 jQ d1=>⟨by rw [←bM d1];exact hl _ _ e1,fun p hp=>?_⟩⟩
  have iE:=Ext.new jQ.fh hp (.tup vs)
  exact q _ _ _ (jQ.trans iE) (xU (xG.of aK) (cD iE.ff _ _ d1))
theorem O6 {f:D→Option D} {r:List V→Hp→VK→Prop} (h:∀F dx d x H Q,bT F H→Den X.K F dx x→f dx=some d→(∀v F' H',Ext F H F' H'→Den X.K F' d v→Q v H')→r [x] H Q) {σ:L2.St} {H:Hp} {Q:VK}
  (hq:tM X.K (fun ρ=>(ea ρ).bind f) σ H Q):We r (HH X.K fun ρ=>(ea ρ).bind fun x=>((fun _=>some []) ρ:Option (List D)).bind fun xs=>some (x::xs)) σ H Q:=by
 obtain ⟨F,ρ,d,s,l,e,q⟩:=hq
 obtain ⟨x,e1,e2⟩:=ab.mp e
 refine ⟨F,ρ,[x],s,l,by simp [e1],fun vs F1 H1 jQ d1=>?_⟩
 obtain ⟨v,r,rfl,d2,d3⟩:=bJ d1
 obtain rfl:=bL d3
 exact h F1 x d v H1 Q jQ.fh d2 e2 fun u F2 H2 iE dn=>q u F2 H2 (jQ.trans iE) dn
theorem wV {x:Str} {id:String} {f:D→Option D} {r:List V→Hp→VK→Prop} (hc:sA X (.builtin id) r) (h:∀F dx d x H Q,bT F H→Den X.K F dx x→f dx=some d→(∀v F' H',Ext F H F' H'→Den X.K F' d v→Q v H')→r [x] H Q)
  (hg:Gl X x) (hm:X.mg x=none) (hv:bootBuiltins x=some (.builtin id)) (ha:PE X a (tM X.K ea)) (hp:plain a=true) (hn:x ≠ "__name__") (F7:(x == ("__debug__" : Str))=false):PE X (.Call (.Name x p) [a] [] pos) (tM X.K fun ρ=>(ea ρ).bind f) :=
 fi (DR hc hg hm hv (jP ha pY hp) hn F7 (cY hp) rfl) fun _ _ _ q=>O6 h q
theorem Lc {x:Str} {id:String} {f:D→Option D} {r:List V→Hp→VK→Prop} (hc:sA X (.type id) r) (h:∀F dx d x H Q,bT F H→Den X.K F dx x→f dx=some d→(∀v F' H',Ext F H F' H'→Den X.K F' d v→Q v H')→r [x] H Q)
  (hg:Gl X x) (hm:X.mg x=none) (hv:bootBuiltins x=some (.type id)) (ha:PE X a (tM X.K ea)) (hp:plain a=true) (hn:x ≠ "__name__") (F7:(x == ("__debug__" : Str))=false):PE X (.Call (.Name x p) [a] [] pos) (tM X.K fun ρ=>(ea ρ).bind f) :=
 fi (lV hc hg hm hv (jP ha pY hp) hn F7 (cY hp) rfl) fun _ _ _ q=>O6 h q
theorem TN (hg:Gl X "len") (hm:X.mg "len" = none) (ha:PE X a (tM X.K ea)) (hp:plain a=true):PE X (.Call (.Name "len" p) [a] [] pos) (tM X.K fun ρ=>(ea ρ).bind fun x=>vp .len x) :=
 wV sL (fun F dx d x H Q sm dn e q=>by
  cases dx<;>simp only [vp,reduceCtorEq] at e
  ·cases e
   obtain ⟨z1,l1,v1,rfl,h1,r1⟩:=dd dn
   exact ⟨l1,v1,rfl,.inl (eS.of (sm _ _ h1)),by rw [←bM r1];exact q _ F H (.refl sm) (bO _)⟩
  ·cases e
   obtain ⟨l1,v1,rfl,h1,r1⟩:=qE dn
   exact ⟨l1,v1,rfl,.inr (l5 sm h1),by rw [←bM r1];exact q _ F H (.refl sm) (bO _)⟩) hg hm PySem.boot_len ha hp (by decide) (by decide)
theorem TQ (J5:X.calm=true) (hg:Gl X "all") (hm:X.mg "all" = none) (ha:PE X a (tM X.K ea)) (hp:plain a=true):PE X (.Call (.Name "all" p) [a] [] pos) (tM X.K fun ρ=>(ea ρ).bind fun x=>vp .all x) :=
 wV (Qs J5) (fun F dx d x H Q sm dn e q=>by
  cases dx<;>simp only [vp,reduceCtorEq] at e
  obtain ⟨bs,e1,e2⟩:=ab.mp e
  cases e2
  obtain ⟨z1,l1,v1,rfl,h1,r1⟩:=dd dn
  obtain rfl:=xT e1 r1
  exact ⟨l1,bs,rfl,eS.of (sm _ _ h1),q _ F H (.refl sm) (mB _)⟩) hg hm boot_all ha hp (by decide) (by decide)
theorem TR (J5:X.calm=true) (hg:Gl X "any") (hm:X.mg "any" = none) (ha:PE X a (tM X.K ea)) (hp:plain a=true):PE X (.Call (.Name "any" p) [a] [] pos) (tM X.K fun ρ=>(ea ρ).bind fun x=>vp .any x) :=
 wV (Qr J5) (fun F dx d x H Q sm dn e q=>by
  cases dx<;>simp only [vp,reduceCtorEq] at e
  obtain ⟨bs,e1,e2⟩:=ab.mp e
  cases e2
  obtain ⟨z1,l1,v1,rfl,h1,r1⟩:=dd dn
  obtain rfl:=xT e1 r1
  exact ⟨l1,bs,rfl,eS.of (sm _ _ h1),q _ F H (.refl sm) (mB _)⟩) hg hm boot_any ha hp (by decide) (by decide)
theorem TU (J5:X.calm=true) (hg:Gl X "sum") (hm:X.mg "sum" = none) (ha:PE X a (tM X.K ea)) (hp:plain a=true):PE X (.Call (.Name "sum" p) [a] [] pos) (tM X.K fun ρ=>(ea ρ).bind fun x=>vp .sum x) :=
 wV (Qq J5) (fun F dx d x H Q sm dn e q=>by
  cases dx<;>simp only [vp,reduceCtorEq] at e
  obtain ⟨bs,e1,e2⟩:=ab.mp e
  cases e2
  obtain ⟨z1,l1,v1,rfl,h1,r1⟩:=dd dn
  obtain rfl:=lW e1 r1
  exact ⟨l1,bs,rfl,eS.of (sm _ _ h1),q _ F H (.refl sm) (bO _)⟩) hg hm boot_sum ha hp (by decide) (by decide)
theorem QP (hg:Gl X "list") (hm:X.mg "list" = none) (ha:PE X a (tM X.K ea)) (hp:plain a=true):PE X (.Call (.Name "list" p) [a] [] pos) (tM X.K fun ρ=>(ea ρ).bind fun x=>vp .list x) :=
 Lc ic (fun F dx d x H Q sm dn e q=>by
  cases dx<;>simp only [vp,reduceCtorEq] at e
  ·cases e
   obtain ⟨z1,l1,v1,rfl,h1,r1⟩:=dd dn
   refine ⟨l1,v1,rfl,.inl (eS.of (sm _ _ h1)),fun p hp=>?_⟩
   have iE:=Ext.new sm hp (.lst v1)
   exact q _ _ _ iE (f9 z1 aK (cD iE.ff _ _ r1))
  ·rename_i l0
   by_cases hz:l0.length≤sizeLine
   ·rw [if_pos hz] at e
    cases e
    obtain ⟨l1,v1,rfl,h1,r1⟩:=qE dn
    refine ⟨l1,v1,rfl,.inr (l5 sm h1),fun p hp=>?_⟩
    have iE:=Ext.new sm hp (.lst v1)
    exact q _ _ _ iE (f9 hz aK (cD iE.ff _ _ r1))
   ·rw [if_neg hz] at e;cases e) hg hm boot_list ha hp (by decide) (by decide)
theorem TV (ha:PE X a (tM X.K ea)):PE X (.UnaryOp .USub a pos) (tM X.K fun ρ=>(ea ρ).bind fun x=>vp .neg x) :=
 fi (SE Qe ha) fun σ H Q ⟨F,ρ,d,s,l,e,q⟩=>by
  obtain ⟨x,e1,e2⟩:=ab.mp e
  refine ⟨F,ρ,x,s,l,e1,fun v F' H' ex dn=>?_⟩
  cases x<;>simp only [vp,reduceCtorEq] at e2
  cases e2
  exact ⟨_,bD dn,q _ F' H' ex (bO _)⟩
theorem HJ {l:List D} {i:Int} {d:D} (h:RY l i=some d):∃k:Nat,i=(k:Int)∧l[k]?=some d:=by
 unfold RY at h
 split at h
 ·exact ⟨_,rfl,h⟩
 ·cases h
theorem Xi (ha:PE X a (tM X.K ea)) (hb:PE X b (tM X.K eb)) (hp:plain b=true):PE X (.Subscript a b pos) (tM X.K fun ρ=>(ea ρ).bind fun x=>(eb ρ).bind fun y=>Gf x y) :=
 fi (Hv (OV.or wO Qj) ha hb (Lb hp)) fun σ H Q ⟨F,ρ,d,s,l,e,q⟩=>by
  obtain ⟨x,y,e1,e2,e3⟩:=QH e
  refine two s l e1 e2 fun v w F' H' ex d1 d2=>?_
  cases x<;>cases y<;>simp only [Gf,reduceCtorEq] at e3
  ·obtain ⟨k,rfl,hk⟩:=HJ e3
   obtain ⟨z1,l1,v1,rfl,h1,r1⟩:=dd d1
   obtain ⟨u,hu,du⟩:=fg r1 hk
   exact .inl ⟨l1,v1,_,u,rfl,bD d2,eS.of (ex.fh _ _ h1),Ht hu,q u F' H' ex du⟩
  ·obtain ⟨k,rfl,hk⟩:=HJ e3
   obtain ⟨l1,v1,rfl,h1,r1⟩:=qE d1
   obtain ⟨u,hu,du⟩:=fg r1 hk
   exact .inr ⟨l1,v1,_,u,rfl,bD d2,l5 ex.fh h1,Ht hu,q u F' H' ex du⟩
theorem Xj:PO X none (QG X.K fun _=>some none):=K_ NA fun σ H Q ⟨F,ρ,d,s,l,e,q⟩=>by cases e;exact q F H (.refl s)
theorem TX (h:PE X a (tM X.K ea)):PO X (some a) (QG X.K fun ρ=>(ea ρ).bind fun x=>(intOf x).bind fun i=>some (some i)) :=
 K_ (sD h) fun σ H Q ⟨F,ρ,d,s,l,e,q⟩=>by
  obtain ⟨x,e1,e2⟩:=ab.mp e
  obtain ⟨i,e3,e4⟩:=ab.mp e2
  cases e4
  obtain rfl:x=.int i:=by cases x<;>simp [intOf] at e3;rw [e3]
  exact ⟨F,ρ,_,s,l,e1,fun v F' H' ex dn=>⟨i,bD dn,q F' H' ex⟩⟩
theorem wW {n d:Nat} {o:Option Int} {k:Nat} (h:RZ n d o=some k):HT.DS n d o=k:=by
 unfold RZ at h
 split at h
 ·cases h;rfl
 ·cases h;exact HT.Ny _ _ _
 ·cases h
theorem Xk {lo hi:Option Expr} {p2:Pos} {fl fh:eA→Option (Option Int)} (ha:PE X a (tM X.K ea)) (hl:PO X lo (QG X.K fl)) (hh:PO X hi (QG X.K fh)) :
  PE X (.Subscript a (.Slice lo hi none p2) pos) (tM X.K fun ρ=>(ea ρ).bind fun x=>(fl ρ).bind fun l=>(fh ρ).bind fun h=>J6 x l h) :=
 fi (xJ B6 ha hl hh) fun σ H Q ⟨F,ρ,d,s,l,e,q⟩=>by
  obtain ⟨x,e1,e⟩:=ab.mp e
  obtain ⟨o1,e2,e⟩:=ab.mp e
  obtain ⟨o2,e3,e⟩:=ab.mp e
  refine ⟨F,ρ,x,s,l,e1,fun v F1 H1 jQ dn=>⟨F1,ρ,o1,jQ.fh,l.mono jQ.ff,e2,fun F2 H2 iE=>⟨F2,ρ,o2,iE.fh,(l.mono jQ.ff).mono iE.ff,e3,fun F3 H3 wX=>?_⟩⟩⟩
  cases x<;>simp only [J6,reduceCtorEq] at e
  rename_i ds
  obtain ⟨k1,b1,e⟩:=ab.mp e
  obtain ⟨k2,b2,e⟩:=ab.mp e
  cases e
  obtain ⟨z1,l1,v1,rfl,h1,r1⟩:=dd (cT (iE.trans wX).ff _ _ dn)
  refine ⟨l1,v1,rfl,eS.of (wX.fh _ _ h1),fun p hp=>?_⟩
  have hlen:=bM r1
  have ec:DT v1 o1 o2=(v1.drop k1).take (k2 - k1):=by
   unfold DT
   rw [←hlen,wW b1,wW b2]
  rw [ec]
  have sU:=Ext.new wX.fh hp (.lst ((v1.drop k1).take (k2 - k1)))
  refine q _ _ _ (jQ.trans (iE.trans (wX.trans sU))) (f9 ?_ aK (cD sU.ff _ _ (Bm _ (uv _ r1))))
  rw [c0,zS]
  omega
theorem NZ {K:aa} {F:Hp} {a:Addr} {l:List D} {vs:List V} (z:l.length≤sizeLine) (h:F a=some (.lst vs)) (r:cG K F l vs):Jp K F (RR K a) l where
 len:=z
 stop:=fun i H s hi=>⟨vs,eS.of (s _ _ h),by rw [←bM r];exact hi⟩
 go:=fun i d H s e=>by
  obtain ⟨v,hv,_⟩:=fg r e
  exact ⟨vs,v,eS.of (s _ _ h),hv⟩
 IV:=fun i d H s e x H' y F1 s1 s2=>by
  obtain ⟨v,hv,dv⟩:=fg r e
  obtain ⟨rfl,y⟩:=y
  have e1:=y vs (eS.of (s _ _ h))
  rw [hv] at e1
  cases e1
  exact ⟨F1,.refl s2,cT s1 _ _ dv⟩
theorem xZ:∀(n:Nat) (lo:Int) (i:Nat) (d:D),(sQ lo n)[i]?=some d→i < n∧d=.int (lo+i)
 | 0,lo,i,d,h=>by simp [sQ] at h
 | n+1,lo,0,d,h=>by
  simp [sQ] at h
  exact ⟨by omega,by rw [←h];simp⟩
 | n+1,lo,i+1,d,h=>by
  obtain ⟨h1,h2⟩:=xZ n (lo+1) i d (by simpa [sQ] using h)
  refine ⟨by omega,?_⟩
  rw [h2]
  have:lo+1+(i:Int)=lo+((i+1:Nat):Int):=by omega
  rw [this]
theorem x8:∀(n:Nat) (lo:Int),(sQ lo n).length=n
 | 0,_=>rfl
 | n+1,lo=>by simp [sQ,x8 n]
theorem Ld {K:aa} {F:Hp} {lo:Int} {n:Nat} (z:n≤sizeLine):Jp K F (Sv lo n) (sQ lo n) where
 len:=by rw [x8];exact z
 stop:=fun i H s hi=>by rw [x8] at hi;exact hi
 go:=fun i d H s e=>(xZ _ _ _ _ e).1
 IV:=fun i d H s e x H' y F1 s1 s2=>by
  obtain ⟨rfl,rfl⟩:=y
  rw [(xZ _ _ _ _ e).2]
  exact ⟨F1,.refl s2,bO _⟩
theorem uz:∀(l:List D) (k:Nat),(nU k l).length=l.length
 | [],_=>rfl
 | d::r,k=>by simp [nU,uz r]
theorem uA:∀(l:List D) (k i:Nat) (d:D),(nU k l)[i]?=some d→∃x,l[i]?=some x∧d=.tup [.int ((k+i:Nat):Int),x]
 | [],k,i,d,h=>by simp [nU] at h
 | y::r,k,0,d,h=>by
  simp [nU] at h
  exact ⟨y,rfl,by rw [←h];simp⟩
 | y::r,k,i+1,d,h=>by
  obtain ⟨x,h1,h2⟩:=uA r (k+1) i d (by simpa [nU] using h)
  refine ⟨x,by simpa using h1,?_⟩
  rw [h2]
  have:k+1+i=k+(i+1):=by omega
  rw [this]
theorem N0 {K:aa} {F:Hp} {a:Addr} {l:List D} {vs:List V} (z:l.length≤sizeLine) (h:F a=some (.lst vs)) (r:cG K F l vs):Jp K F (WR K a) (nU 0 l) where
 len:=by rw [uz];exact z
 stop:=fun i H s hi=>⟨vs,eS.of (s _ _ h),by rw [←bM r,←uz l 0];exact hi⟩
 go:=fun i d H s e=>by
  obtain ⟨x,hx,_⟩:=uA _ _ _ _ e
  obtain ⟨v,hv,_⟩:=fg r hx
  exact ⟨vs,v,eS.of (s _ _ h),hv⟩
 IV:=fun i d H s e x H' y F1 s1 s2=>by
  obtain ⟨u,hu,rfl⟩:=uA _ _ _ _ e
  obtain ⟨v,hv,dv⟩:=fg r hu
  obtain ⟨T,w,rfl,hT,rfl,y⟩:=y
  have e1:=y vs (eS.of (s _ _ h))
  rw [hv] at e1
  cases e1
  have ex:=Ext.new s2 hT (.tup [.int ((i:Nat):Int),v])
  refine ⟨_,ex,xU (xG.of aK) ?_⟩
  rw [cn]
  exact bB (bO _) (bB (cT (s1.trans ex.ff) _ _ dv) bU)
theorem x9:∀(l m:List D) (i:Nat) (d:D),(rW l m)[i]?=some d→∃x y,l[i]?=some x∧m[i]?=some y∧d=.tup [x,y]
 | [],_,i,d,h=>by simp [rW] at h
 | _::_,[],i,d,h=>by simp [rW] at h
 | x::l,y::m,0,d,h=>by
  simp [rW] at h
  exact ⟨x,y,rfl,rfl,h.symm⟩
 | x::l,y::m,i+1,d,h=>by
  obtain ⟨u,v,h1,h2,h3⟩:=x9 l m i d (by simpa [rW] using h)
  exact ⟨u,v,by simpa using h1,by simpa using h2,h3⟩
theorem x_:∀(l m:List D),(rW l m).length=min l.length m.length
 | [],_=>by simp [rW]
 | _::_,[]=>by simp [rW]
 | x::l,y::m=>by simp [rW,x_ l m]
theorem QQ {K:aa} {F:Hp} {a b:Addr} {l m:List D} {vs us:List V} (z:l.length≤sizeLine) (h:F a=some (.lst vs)) (r:cG K F l vs) (h':F b=some (.lst us)) (r':cG K F m us):Jp K F (WU K a b) (rW l m) where
 len:=by rw [x_];omega
 stop:=fun i H s hi=>⟨vs,us,eS.of (s _ _ h),eS.of (s _ _ h'),by rw [x_] at hi;rw [←bM r,←bM r'];omega⟩
 go:=fun i d H s e=>by
  obtain ⟨x,y,hx,hy,_⟩:=x9 _ _ _ _ e
  obtain ⟨v,hv,_⟩:=fg r hx
  obtain ⟨w,hw,_⟩:=fg r' hy
  exact ⟨vs,us,v,w,eS.of (s _ _ h),eS.of (s _ _ h'),hv,hw⟩
 IV:=fun i d H s e x H' y F1 s1 s2=>by
  obtain ⟨p,q,hp,hq,rfl⟩:=x9 _ _ _ _ e
  obtain ⟨v,hv,dv⟩:=fg r hp
  obtain ⟨w,hw,dw⟩:=fg r' hq
  obtain ⟨T,x1,x2,rfl,hT,rfl,y1,y2⟩:=y
  have e1:=y1 vs (eS.of (s _ _ h))
  have e2:=y2 us (eS.of (s _ _ h'))
  rw [hv] at e1
  rw [hw] at e2
  cases e1
  cases e2
  have ex:=Ext.new s2 hT (.tup [v,w])
  refine ⟨_,ex,xU (xG.of aK) ?_⟩
  exact bB (cT (s1.trans ex.ff) _ _ dv) (bB (cT (s1.trans ex.ff) _ _ dw) bU)
theorem HK {α:Type} {l:List α} {i:Nat} {d:α} (h:l.reverse[i]?=some d):i < l.length∧l[l.length - 1 - i]?=some d:=by
 have hi:i < l.reverse.length:=(cw.mp h).1
 rw [a7] at hi
 rw [JY hi] at h
 exact ⟨hi,h⟩
theorem QR {K:aa} {F:Hp} {a:Addr} {l:List D} {vs:List V} (z:l.length≤sizeLine) (h:F a=some (.lst vs)) (r:cG K F l vs):Jp K F (WO K a vs.length) l.reverse where
 len:=by rw [a7];exact z
 stop:=fun i H s hi=>by
  rw [a7,bM r] at hi
  exact hi
 go:=fun i d H s e=>by
  obtain ⟨hi,e⟩:=HK e
  obtain ⟨v,hv,_⟩:=fg r e
  rw [bM r] at hi hv
  exact ⟨hi,vs,v,eS.of (s _ _ h),hv⟩
 IV:=fun i d H s e x H' y F1 s1 s2=>by
  obtain ⟨hi,e⟩:=HK e
  obtain ⟨v,hv,dv⟩:=fg r e
  rw [bM r] at hi hv
  obtain ⟨rfl,y⟩:=y
  have e1:=y vs (eS.of (s _ _ h))
  rw [hv] at e1
  cases e1
  exact ⟨F1,.refl s2,cT s1 _ _ dv⟩
theorem QS {tg:Expr} (h:PE X a (tM X.K ea)):PI X tg a (HI X.K fun ρ=>(ea ρ).bind NU) :=
 uy (Hi h) fun σ H Q ⟨F,ρ,ds,s,l,e,q⟩=>by
  obtain ⟨x,e1,e2⟩:=ab.mp e
  obtain rfl:x=.lst ds:=by cases x<;>simp [NU] at e2;rw [e2]
  refine ⟨F,ρ,_,s,l,e1,fun v F' H' ex dn=>?_⟩
  obtain ⟨z1,l1,v1,rfl,h1,r1⟩:=dd dn
  exact ⟨l1,rfl,⟨v1,eS.of (ex.fh _ _ h1)⟩,q _ F' H' ex (NZ z1 h1 r1)⟩
theorem HL {lo:Int} {x:D} {ds:List D} (h:itR lo x=some ds):∃j:Int,x=.int j∧-(2 ^ 24) < lo∧lo < 2 ^ 24∧-(2 ^ 24) < j∧j < 2 ^ 24∧(j - lo).toNat≤sizeLine∧ds=sQ lo (j - lo).toNat:=by
 cases x<;>simp only [itR,reduceCtorEq] at h
 rename_i j
 by_cases hz:-(2 ^ 24) < lo∧lo < 2 ^ 24∧-(2 ^ 24) < j∧j < 2 ^ 24∧(j - lo).toNat≤sizeLine
 ·rw [if_pos hz] at h
  exact ⟨j,rfl,hz.1,hz.2.1,hz.2.2.1,hz.2.2.2.1,hz.2.2.2.2,(bA.inj h).symm⟩
 ·rw [if_neg hz] at h;cases h
theorem TY {tg:Expr} (hg:Gl X "range") (hm:X.mg "range" = none) (h:PE X a (tM X.K ea)) (hp:plain a=true):PI X tg (.Call (.Name "range" p) [a] [] pos) (HI X.K fun ρ=>(ea ρ).bind (itR 0)) :=
 uy (IX hg hm (jP h pY hp) (by rw [cY hp];rfl)) fun σ H Q ⟨F,ρ,ds,s,l,e,q⟩=>by
  obtain ⟨x,e1,e2⟩:=ab.mp e
  obtain ⟨j,rfl,_,_,j1,j2,z,rfl⟩:=HL e2
  refine ⟨F,ρ,[.int j],s,l,by simp [e1],fun vs F' H' ex dn=>?_⟩
  obtain ⟨v,r,rfl,d1,d2⟩:=bJ dn
  obtain rfl:=bL d2
  obtain rfl:=bD d1
  have ej:(j - 0).toNat=j.toNat:=by rw [Int.sub_zero]
  rw [ej] at q z
  exact ⟨j,rfl,by omega,by omega,q _ F' H' ex (Ld z)⟩
theorem QT {tg:Expr} (hg:Gl X "range") (hm:X.mg "range" = none) (ha:PE X a (tM X.K ea)) (hb:PE X b (tM X.K eb)) (HM:plain a=true) (R0:plain b=true) :
  PI X tg (.Call (.Name "range" p) [a,b] [] pos) (HI X.K fun ρ=>(ea ρ).bind fun x=>(eb ρ).bind fun y=>Gg x y) :=
 uy (IY hg hm (jP ha (jP hb pY R0) HM) (by rw [cY HM,cY R0];rfl) (by rw [cY R0];rfl)) fun σ H Q ⟨F,ρ,ds,s,l,e,q⟩=>by
  obtain ⟨x,e1,e⟩:=ab.mp e
  obtain ⟨y,e2,e⟩:=ab.mp e
  obtain ⟨i,rfl⟩:∃i,x=.int i:=by cases x<;>simp only [Gg,reduceCtorEq] at e;exact ⟨_,rfl⟩
  simp only [Gg] at e
  obtain ⟨j,rfl,i1,i2,j1,j2,z,rfl⟩:=HL e
  refine ⟨F,ρ,[.int i,.int j],s,l,by simp [e1,e2],fun vs F' H' ex dn=>?_⟩
  obtain ⟨v,r,rfl,d1,d2⟩:=bJ dn
  obtain ⟨v2,r,rfl,d3,d4⟩:=bJ d2
  obtain rfl:=bL d4
  obtain rfl:=bD d1
  obtain rfl:=bD d3
  exact ⟨i,j,rfl,⟨by omega,by omega,by omega,by omega⟩,q _ F' H' ex (Ld z)⟩
theorem QU {elts:List Expr} {kk:Nat} {uj:Pos} (hg:Gl X "enumerate") (hm:X.mg "enumerate" = none) (h:PE X a (tM X.K ea)) (hp:plain a=true) :
  PI X (.Tuple elts kk uj) (.Call (.Name "enumerate" p) [a] [] pos) (HI X.K fun ρ=>(ea ρ).bind fun x=>(NU x).bind fun l=>some (nU 0 l)) :=
 uy (NP hg hm (jP h pY hp) (by rw [cY hp];rfl)) fun σ H Q ⟨F,ρ,ds,s,l,e,q⟩=>by
  obtain ⟨x,e1,e2⟩:=ab.mp e
  obtain ⟨xs,e3,e4⟩:=ab.mp e2
  cases e4
  obtain rfl:x=.lst xs:=by cases x<;>simp [NU] at e3;rw [e3]
  refine ⟨F,ρ,[.lst xs],s,l,by simp [e1],fun vs F' H' ex dn=>?_⟩
  obtain ⟨v,r,rfl,d1,d2⟩:=bJ dn
  obtain rfl:=bL d2
  obtain ⟨z1,l1,v1,rfl,h1,r1⟩:=dd d1
  exact ⟨l1,v1,rfl,eS.of (ex.fh _ _ h1),q _ F' H' ex (N0 z1 h1 r1)⟩
theorem TZ {elts:List Expr} {kk:Nat} {uj:Pos} (hg:Gl X "zip") (hm:X.mg "zip" = none) (ha:PE X a (tM X.K ea)) (hb:PE X b (tM X.K eb)) (HM:plain a=true) (R0:plain b=true) :
  PI X (.Tuple elts kk uj) (.Call (.Name "zip" p) [a,b] [] pos) (HI X.K fun ρ=>(ea ρ).bind fun x=>(eb ρ).bind fun y=>Vm x y) :=
 uy (QB hg hm (jP ha (jP hb pY R0) HM) (cY HM) (mG (by simp [R0]))) fun σ H Q ⟨F,ρ,ds,s,l,e,q⟩=>by
  obtain ⟨x,e1,e⟩:=ab.mp e
  obtain ⟨y,e2,e⟩:=ab.mp e
  obtain ⟨xs,ys,rfl,rfl⟩:∃xs ys,x=.lst xs∧y=.lst ys:=by cases x<;>cases y<;>simp only [Vm,reduceCtorEq] at e;exact ⟨_,_,rfl,rfl⟩
  simp only [Vm] at e
  cases e
  refine ⟨F,ρ,[.lst xs,.lst ys],s,l,by simp [e1,e2],fun vs F' H' ex dn=>?_⟩
  obtain ⟨v,r,rfl,d1,d2⟩:=bJ dn
  obtain ⟨v2,r,rfl,d3,d4⟩:=bJ d2
  obtain rfl:=bL d4
  obtain ⟨z1,l1,v1,rfl,h1,r1⟩:=dd d1
  obtain ⟨z2,l2,v2,rfl,h2,r2⟩:=dd d3
  exact ⟨l1,l2,v1,v2,rfl,eS.of (ex.fh _ _ h1),eS.of (ex.fh _ _ h2),q _ F' H' ex (QQ z1 h1 r1 h2 r2)⟩
theorem T1 {tg:Expr} (hg:Gl X "reversed") (hm:X.mg "reversed" = none) (h:PE X a (tM X.K ea)) (hp:plain a=true):PI X tg (.Call (.Name "reversed" p) [a] [] pos) (HI X.K fun ρ=>(ea ρ).bind fun x=>(NU x).bind fun l=>some l.reverse) :=
 uy (D4 hg hm (jP h pY hp) (by rw [cY hp];rfl)) fun σ H Q ⟨F,ρ,ds,s,l,e,q⟩=>by
  obtain ⟨x,e1,e2⟩:=ab.mp e
  obtain ⟨xs,e3,e4⟩:=ab.mp e2
  cases e4
  obtain rfl:x=.lst xs:=by cases x<;>simp [NU] at e3;rw [e3]
  refine ⟨F,ρ,[.lst xs],s,l,by simp [e1],fun vs F' H' ex dn=>?_⟩
  obtain ⟨v,r,rfl,d1,d2⟩:=bJ dn
  obtain rfl:=bL d2
  obtain ⟨z1,l1,v1,rfl,h1,r1⟩:=dd d1
  exact ⟨l1,v1,rfl,eS.of (ex.fh _ _ h1),q _ F' H' ex (QR z1 h1 r1)⟩
def Cf (K:aa):Tg→TG
 | .nm i=>kU i
 | .tp [i,j]=>Su K 2 (Kp (kU i) (Kp (kU j) Sr))
 | .tp _=>fun _ _ _ _=>False
theorem pZ (σ:L2.St):∀(vs:List Nat) (j:Nat),(wipe σ vs)[j]?=if j∈vs∧j < σ.length then some none else σ[j]?
 | [],j=>by simp [L2.wipe]
 | v::vs,j=>by
  unfold L2.wipe
  by_cases hv:v=j
  ·subst hv
   by_cases hl:v < σ.length
   ·rw [b6 (by rw [g0];exact hl)]
    simp [hl]
   ·rw [bY (by rw [cO,g0];omega),bY (by omega)]
    simp [hl]
  ·rw [bg hv,pZ σ vs j]
   have:¬j=v:=fun z=>hv z.symm
   simp [this]
theorem ya {σ:L2.St} {vs:List Nat} {i:Nat} {x:Option V} (h:i∈vs):wipe (σ.set i x) vs=wipe σ vs:=by
 apply ky
 intro j
 rw [pZ,pZ,cO]
 by_cases hj:j∈vs∧j < σ.length
 ·rw [if_pos hj,if_pos hj]
 ·rw [if_neg hj,if_neg hj]
  by_cases O7:i=j
  ·subst O7
   have:¬i < σ.length:=fun z=>hj ⟨h,z⟩
   rw [bY (by rw [cO];omega),bY (by omega)]
  ·rw [bg O7]
theorem Jq (σ:L2.St) (vs:List Nat):wipe (wipe σ vs) vs=wipe σ vs:=by
 apply ky
 intro j
 rw [pZ,pZ,g0]
 by_cases hj:j∈vs∧j < σ.length
 ·rw [if_pos hj,if_pos hj]
 ·rw [if_neg hj,if_neg hj]
theorem Xl {K:aa} {F H:Hp} {σ:L2.St} {ρ HN:eA} {t:Tg} {d:D} {v:V} {Q:L2.St→Hp→Prop} (ht:∀l,t=.tp l→l.length=2) (s:bT F H) (l:Slots K F σ ρ) (dn:Den K F d v) (e:Jn t d ρ=some HN)
  (q:∀fb,Slots K F fb HN→wipe fb t.slots=wipe σ t.slots→Q fb H):Cf K t v σ H Q:=by
 cases t with
 | nm i =>
  simp [Jn] at e
  subst e
  exact q _ (l.set dn) (ya (by simp [Tg.slots]))
 | tp is =>
  have h2:=ht is rfl
  match is,h2 with
  | [i,j],_ =>
   cases d<;>simp only [Jn,reduceCtorEq] at e
   rename_i ds
   obtain ⟨a,vs,rfl,hs,dl⟩:=qE dn
   match ds,e with
   | [x,y],e =>
    simp [Bi] at e
    subst e
    obtain ⟨v1,r,rfl,d1,d2⟩:=bJ dl
    obtain ⟨v2,r,rfl,d3,d4⟩:=bJ d2
    obtain rfl:=bL d4
    refine ⟨a,[v1,v2],rfl,l5 s hs,rfl,v1,[v2],rfl,v2,[],rfl,rfl,?_⟩
    refine q _ ((l.set d1).set d3) ?_
    rw [ya (by simp [Tg.slots]),ya (by simp [Tg.slots])]
   | [],e=>simp [Bi] at e
   | [_],e=>simp [Bi] at e
   | _::_::_::_,e=>simp [Bi] at e
theorem Le {K:aa} {t:Tg} {ei:eA→Option (List D)} {ec:eA→Option Bool} {ee:eA→Option D} {σ:L2.St} {H:Hp} {Q:VK} (ht:∀l,t=.tp l→l.length=2)
  (h:J8 K (fun ρ=>(ei ρ).bind fun ds=>iB ec ee t (i7 ρ t.slots) ds) σ H Q):OX (HI K ei) (Cf K t) (sR K ec) (tM K ee) t.slots σ H Q:=by
 obtain ⟨F,ρ,out,s,sl,e,q⟩:=h
 obtain ⟨ds,e1,e2⟩:=ab.mp e
 refine ⟨F,ρ,ds,s,sl,e1,fun J F1 H1 jQ it=>fun D hD=>?_⟩
 refine ⟨fun i m H2=>m=ds.length - i∧i≤ds.length∧∃(F2:Hp) (acc:List Mi.D) (vs:List V) (rest:List Mi.D),Ext F1 H1 F2 H2∧F2 D=none∧H2 D=some (.lst vs)∧cG K F2 acc vs∧iB ec ee t (i7 ρ t.slots) (ds.drop i)=some rest∧out=acc++rest∧acc.length≤i,
  ⟨ds.length,by simp,c8 _,F1,[],[],out,Ext.Ti jQ.fh hD _,same_none jQ.fh hD,aK,bU,e2,rfl,aW _⟩,?_⟩
 rintro i m H2 ⟨rfl,hi,F2,acc,vs,rest,O8,fD,R1,N1,Gj,eo,Ef⟩
 have QV:bT F1 H2:=O8.ff.trans O8.fh
 have sF:Slots K F2 σ ρ:=(sl.mono jQ.ff).mono O8.ff
 by_cases DO:i < ds.length
 ·obtain ⟨x,hx⟩:∃x,ds[i]?=some x:=⟨_,au DO⟩
  have Lf:ds.drop i=x::ds.drop (i+1):=by
   rw [FF DO]
   congr 1
   rw [au DO] at hx
   exact bA.inj hx
  rw [Lf] at Gj
  unfold iB at Gj
  obtain ⟨Tf,s1,Gj⟩:=ab.mp Gj
  obtain ⟨b,s2,Gj⟩:=ab.mp Gj
  refine .inr ⟨it.go i x H2 QV hx,fun H'=>(i+1≤ds.length∧∃(F2:Hp) (acc:List Mi.D) (vs:List V) (rest:List Mi.D),Ext F1 H1 F2 H'∧F2 D=none∧H' D=some (.lst vs)∧cG K F2 acc vs∧iB ec ee t (i7 ρ t.slots) (ds.drop (i+1))=some rest∧out=acc++rest∧acc.length≤i+1),fun H' hn=>⟨ds.length - (i+1),by omega,rfl,hn.1,hn.2⟩,fun y H3 hy=>?_⟩
  obtain ⟨F3,wX,dy⟩:=it.IV i x H2 QV hx y H3 hy F2 O8.ff O8.fh
  have Z9:F3 D=none:=wX.nw D fD (by rw [R1];exact fun z=>nomatch z)
  refine Xl ht wX.fh ((sF.mono wX.ff).wipe t.slots) dy s1 fun MR M0 hw=>⟨by rw [hw,Jq],F3,Tf,b,wX.fh,M0,s2,fun F4 H4 sU=>?_⟩
  have Yt:F4 D=none:=sU.nw D Z9 (by rw [wX.hh D _ R1];exact fun z=>nomatch z)
  cases b with
  | true =>
   obtain ⟨z,s3,Gj⟩:=ab.mp Gj
   obtain ⟨zs,s4,Gj⟩:=ab.mp Gj
   cases Gj
   refine ⟨F4,Tf,z,sU.fh,M0.mono sU.ff,s3,fun w F5 H5 Lg dw=>?_⟩
   have Yu:F5 D=none:=Lg.nw D Yt (by rw [sU.hh D _ (wX.hh D _ R1)];exact fun z=>nomatch z)
   have Z_:H5 D=some (.lst vs):=Lg.hh D _ (sU.hh D _ (wX.hh D _ R1))
   have O9:Ext F2 H2 F5 H5:=wX.trans (sU.trans Lg)
   have hl:=bM N1
   have hz:=it.len
   refine ⟨vs,Z_,by omega,by omega,F5,acc++[z],vs++[w],zs,(O8.trans O9).write hD Yu,Yu,aK,jl (cD O9.ff _ _ N1) (bB dw bU),s4,by rw [eo,de];rfl,by rw [ax,rO];omega⟩
  | false =>
   have O9:Ext F2 H2 F4 H4:=wX.trans sU
   exact ⟨by omega,F4,acc,vs,rest,O8.trans O9,Yt,O9.hh D _ R1,cD O9.ff _ _ N1,Gj,eo,by omega⟩
 ·have Xm:i=ds.length:=by omega
  subst Xm
  rw [Px] at Gj
  simp [iB] at Gj
  subst Gj
  rw [fT] at eo
  subst eo
  have hz:=it.len
  have hDH:H D=none:=same_none jQ.hh hD
  exact .inl ⟨it.stop _ H2 QV (aW _),q D vs F2 H2 (jQ.trans O8) hDH fD R1 (by omega) N1⟩
theorem O_ {K:aa} {t:Tg} {ei:eA→Option (List D)} {ec:eA→Option Bool} {ee:eA→Option D} {σ:L2.St} {H:Hp} {Q:VK} (ht:∀l,t=.tp l→l.length=2)
  (h:tM K (fun ρ=>(ei ρ).bind fun ds=>(iB ec ee t (i7 ρ t.slots) ds).bind fun l=>some (.lst l)) σ H Q):OX (HI K ei) (Cf K t) (sR K ec) (tM K ee) t.slots σ H Q:=by
 refine Le ht (QO ?_)
 obtain ⟨F,ρ,d,s,sl,e,q⟩:=h
 refine ⟨F,ρ,d,s,sl,?_,q⟩
 obtain ⟨ds,e1,e2⟩:=ab.mp e
 show ((ei ρ).bind fun ds=>iB ec ee t (i7 ρ t.slots) ds).bind (fun l=>some (D.lst l))=some d
 rw [e1]
 exact e2
end
end Mi
namespace PySem
section
variable {prog:Program} {w:World} {A:Around} {E:Value→Shared→Prop} {s:Shared}
theorem Jr:typeLookup (.type "list_reverseiterator") "__len__" = pure none:=by rw [typeLookup_type,builtinLookup_eq_fast];kernel_rfl
theorem Lh:typeLookup (.type "list_reverseiterator") "__length_hint__" = pure (some (.builtin "list_reverseiterator.__length_hint__")):=by rw [typeLookup_type,builtinLookup_eq_fast];kernel_rfl
theorem Gk {R:Result→Shared→Prop} {I l:Addr} {items:Array Value} (hh:A.handled=none) (kI:l≠I) (hl:s.heap.IsList l items) (hit:s.heap.IsRevIter I l ((items.size:Int) - 1)) (hlen:items.size≤sizeLine) (S:Addr) (T2:S≠I) (Vn:S≠l) (res:Value) (c₀:Nat) (hS:s.heap.get? S=some { cls:=.type "list",data:=.seq #[] c₀ })
  (hR:∀h' tk sV c',(∀b o,b≠S→b≠I→s.heap.get? b=some o→h'.get? b=some o)→h'.get? S=some { cls:=.type "list",dict:=none,data:=.seq sV c',slots:=#[] } →
   ItemsOf (fun i v=>items[items.size - 1 - i]?=some v) sV items.size→R (.ok (.ret res)) { s with heap:=h',toks:=tk }) :
  wpAny (model prog w) A.in1 (Builtin.List.listExtendWith (.ref S) (.ref I) res)
   (fun fin s'=>match fin with|.done f=>R (.ok f) s'|.again c'=>c'.quiet=true∧codeAny (model prog w) A c' R s') (fun e s'=>R (.error e) s') s:=by
 have W:=(Walks.listRev (prog:=prog) (w:=w) (A:=A.in1) hh I l kI items).toS
 have hSf:S ∉ [I,l]:=fun hm=>by
  rcases aF.mp hm with e|hm
  ·exact T2 e
  ·exact Vn (bZ.mp hm)
 have P5:(0:Nat)≤items.size∧s.heap.IsRevIter I l ((items.size:Int) - 1 - ((0:Nat):Int))∧s.heap.IsList l items:=⟨c8 _,by simpa using hit,hl⟩
 have hT:s.TypeIs (.ref I) "list_reverseiterator" := hit.typeIs
 have h1:Builtin.List.listSameRef (.ref S) (.ref I)=false:=by simp [Builtin.List.listSameRef,T2]
 unfold Builtin.List.listExtendWith
 refine wpAny_bind (wpAny_typeOf hT ?_)
 rw [if_neg (by rw [h1];decide)]
 refine wpAny_bind (wpAny_pyIter_revIter hit ?_)
 refine wpAny_bind (wpAny_holding ?_)
 unfold Builtin.List.listLengthHint
 refine wpAny_bind (wpAny_specialOf hT Jr ?_)
 show wpAny _ A.in1 (specialOf (Value.ref I) (Str.ofString "__length_hint__") >>= _) _ _ _
 refine wpAny_bind (wpAny_specialOf hT Lh ?_)
 generalize Yv:("list_reverseiterator.__length_hint__" : String)=id0
 wp_delta
 rw [show splitId id0=some ("list_reverseiterator","__length_hint__") from by subst Yv;decide +kernel]
 subst Yv
 refine wpAny_bind (wpAny_isInstance (b:=true) hT (by rw [isSubtype_type];kernel_rfl) ?_)
 refine wpAny_pure ?_
 rw [if_neg (by decide)]
 refine wpAny_pure ⟨plainId_quiet F.plain_extend_loop _,codeAny_extend_loopS W hlen S hSf res items.size 0 s #[] c₀ rfl (c8 _) P5 hS (ItemsOf.nil _) fun s' sV c' hm T3 Ef=>?_⟩
 rw [Moved.eq_with hm]
 refine hR s'.heap s'.toks sV c' (fun b o hb Xn e=>hm.heap b o (fun xM=>?_) e) T3 Ef
 rcases aF.mp xM with e'|xM
 ·exact hb e'
 ·exact Xn (bZ.mp xM)
theorem zZ {R:Result→Shared→Prop} {I l:Addr} {items:Array Value} (hh:A.handled=none) (kI:l≠I) (hl:s.heap.IsList l items) (hit:s.heap.IsRevIter I l ((items.size:Int) - 1)) (hlen:items.size≤sizeLine) (S:Addr) (T2:S≠I) (Vn:S≠l) (hS:s.heap.get? S=some { cls:=.type "list",data:=.seq #[] })
  (hR:∀h' tk sV c',(∀b o,b≠S→b≠I→s.heap.get? b=some o→h'.get? b=some o)→h'.get? S=some { cls:=.type "list",dict:=none,data:=.seq sV c',slots:=#[] } →
   ItemsOf (fun i v=>items[items.size - 1 - i]?=some v) sV items.size→R (.ok (.ret .none)) { s with heap:=h',toks:=tk }) :
  wpAny (model prog w) A.in1 (Builtin.«list.__init__» ⟨[.ref S,.ref I],[]⟩)
   (fun fin s'=>match fin with|.done f=>R (.ok f) s'|.again c'=>c'.quiet=true∧codeAny (model prog w) A c' R s') (fun e s'=>R (.error e) s') s:=by
 show wpAny _ _ (do let old ←Builtin.List.listItems (.ref S);Builtin.List.listUpdate (.ref S) (fun _=>#[]);letGo old.toList.reverse;Builtin.List.listExtendWith (.ref S) (.ref I) .none) _ _ s
 refine wpAny_bind ?_
 unfold Builtin.List.listItems
 refine wpAny_bind (wpAny_seqItems hS rfl (wpAny_pure ?_))
 show wpAny _ _ (updateSeq S (fun _=>#[]) >>= fun _=>letGo (#[]:Array Value).toList.reverse >>= fun _=>Builtin.List.listExtendWith (.ref S) (.ref I) .none) _ _ s
 refine wpAny_bind (wpAny_updateSeq hS rfl ?_)
 have T4:=Heap.get?_update_self (Obj.mapSeq (fun _=>(#[]:Array Value))) hS rfl
 have Xo:∀b o,b≠S→s.heap.get? b=some o→(s.heap.update S (Obj.mapSeq (fun _=>(#[]:Array Value)))).get? b=some o :=
  fun b o hb e=>(Heap.get?_update_other _ _ (Ne.symm hb)).trans e
 refine wpAny_bind (wpAny_letGo ?_)
 refine Gk hh kI (hl.at fun o e=>Xo l o (Ne.symm Vn) e) (hit.at fun o e=>Xo I o (Ne.symm T2) e) hlen S T2 Vn .none _ T4 fun h' tk sV c' hk T3 Ef=>?_
 exact hR h' tk sV c' (fun b o hb Xn e=>hk b o hb Xn (Xo b o hb e)) T3 Ef
theorem z3 {Q:Value→Shared→Prop} {I l:Addr} {items:Array Value} (hh:A.handled=none) (kI:l≠I) (hl:s.heap.IsList l items) (hit:s.heap.IsRevIter I l ((items.size:Int) - 1)) (hlen:items.size≤sizeLine)
  (hQ:∀h' tk sV c',(∀b o,b≠I→s.heap.get? b=some o→h'.get? b=some o) →
   h'.get? s.heap.objs.size=some { cls:=.type "list",dict:=none,data:=.seq sV c',slots:=#[] }→ItemsOf (fun i v=>items[items.size - 1 - i]?=some v) sV items.size→Q (.ref s.heap.objs.size) { s with heap:=h',toks:=tk }) :
  wpAny (model prog w) A (call (.type "list") [.ref I]) Q E s:=by
 refine callType_codes (Q₁:=fun obj ft=>obj=.ref s.heap.objs.size∧ft={ s with heap:=s.heap.push { cls:=.type "list",data:=.seq #[] } }) F.called_list (F.typeCall_list_1 _) F.entry_list_init
  (code_list_new _ ⟨rfl,rfl⟩) fun obj ft NJ=>?_
 obtain ⟨rfl,rfl⟩:=NJ
 have hS:(s.heap.push { cls:=.type "list",data:=.seq #[] }).get? s.heap.objs.size=some { cls:=.type "list",data:=.seq #[] }:=Heap.get?_push_size _ rfl
 have hlI:I < s.heap.objs.size:=by obtain ⟨_,q,_⟩:=hit;exact Heap.lt_size q
 have Vo:l < s.heap.objs.size:=by obtain ⟨_,q,_⟩:=hl;exact Heap.lt_size q
 refine ⟨⟨_,hS,rfl⟩,F.args_list_init_2 _ _,zZ (A:=A.in1) hh kI (hl.at fun o e=>Heap.get?_push_of_some _ e) (hit.at fun o e=>Heap.get?_push_of_some _ e) hlen _ (rC hlI) (rC Vo) hS fun h' tk sV c' hk T3 Ef=>?_⟩
 exact ⟨rfl,hQ h' tk sV c' (fun b o hb e=>hk b o (cF (Heap.lt_size e)) hb (Heap.get?_push_of_some _ e)) T3 Ef⟩
end
end PySem
namespace Mi
open PySem PySem.Spec PyProof.Rows L2
section
variable {X:Cx} {e a b:Expr} {es:List Expr} {pos p:Pos} {ea eb ev:eA→Option D} {el:eA→Option (List D)}
theorem QW:RQ X .BitOr (V2 fun i j=>Builtin.bitOr i j):=by
 intro pins s σ H x y v u Q I r1 r2 h
 obtain ⟨i,j,e1,e2,q⟩:=h
 subst e1;subst e2
 obtain ⟨t,rfl⟩:=r1
 obtain ⟨t',rfl⟩:=r2
 exact ior_int ⟨.int _,H,I.tok _,⟨_,rfl⟩,q⟩
def Xp (K:aa):V→List V→Hp→VK→Prop:=fun x vs H Q=>∃(a:Addr) (ns:List Int) (k:Int),x=.ref a∧vs=[.int k]∧eS K H a (ns.map V.int)∧Q (.int (ns.count k:Nat)) H
theorem QX:Vf X "list.count" (Xp X.K):=by
 intro pins s σ H x xs v us Q I rx rxs h
 obtain ⟨a,ns,k,rfl,rfl,hs,q⟩:=h
 cases rx
 obtain ⟨u,rfl,ru⟩:=rxs.one
 obtain ⟨t,rfl⟩:=ru
 obtain ⟨bR,rv,hl,_⟩:=I.list hs
 exact count_list_ints hl.isList (intsAre_of rv) ⟨.int _,H,I.tok _,⟨_,rfl⟩,q⟩
theorem T5 {apos jM:Pos} (ha:PE X a (tM X.K ea)) (hb:based a=true) (hv:PE X b (tM X.K eb)) (hp:plain b=true) (hl:(apos.endLine == jM.line)=true) :
  PE X (.Call (.Attribute a "count" apos) [b] [] jM) (tM X.K fun ρ=>(ea ρ).bind fun x=>(eb ρ).bind fun y=>Jo x y) :=
 fi (sM PySem.F.plainAttrs_list PySem.F.slot_list_count PySem.F.type_list_count QX ha (jP hv pY hp) (xY hb) (by rw [cY hp];rfl) hl (cY hp) rfl) fun σ H Q ⟨F,ρ,d,s,l,e,q⟩=>by
  obtain ⟨x,y,e1,e2,e3⟩:=QH e
  refine ⟨F,ρ,x,s,l,e1,fun v F1 H1 jQ d1=>?_⟩
  cases x<;>cases y<;>simp only [Jo,reduceCtorEq] at e3
  obtain ⟨ns,e4,e5⟩:=ab.mp e3
  cases e5
  rename_i ds k
  obtain ⟨z1,l1,v1,rfl,h1,r1⟩:=dd d1
  obtain rfl:=lW e4 r1
  refine ⟨.inl ⟨rfl,_,eS.of (jQ.fh _ _ h1)⟩,F1,ρ,[.int k],jQ.fh,l.mono jQ.ff,by simp [e2],fun vs F2 H2 iE dn=>?_⟩
  obtain ⟨u,r,rfl,d2,d3⟩:=bJ dn
  obtain rfl:=bL d3
  exact ⟨l1,ns,k,rfl,by rw [bD d2],eS.of (iE.hh _ _ (jQ.fh _ _ h1)),q _ F2 H2 (jQ.trans iE) (bO _)⟩
theorem Bq {K:aa} {F:Hp} {ds:List D} {vs:List V} (h:cG K F ds vs):∀ix:List Nat,cG K F (ix.filterMap fun j=>ds[j]?) (ix.filterMap fun j=>vs[j]?)
 | []=>bU
 | j::ix=>by
  have ih:=Bq h ix
  rw [dW,dW]
  cases e:ds[j]? with
  | none =>
   have e2:vs[j]?=none:=by
    rw [om] at e ⊢
    rw [←bM h];exact e
   rw [e2];exact ih
  | some d =>
   obtain ⟨v,hv,dv⟩:=fg h e
   rw [hv]
   exact bB dv ih
theorem Br {vs:List V} {us:List Value} (h:Vals vs us):∀ix:List Nat,Vals (ix.filterMap fun j=>vs[j]?) (ix.filterMap fun j=>us[j]?)
 | []=>.nil
 | j::ix=>by
  have ih:=Br h ix
  rw [dW,dW]
  cases e:vs[j]? with
  | none=>rw [h.none_of e];exact ih
  | some v =>
   obtain ⟨u,hu,ru⟩:=h.get e
   rw [hu]
   exact .cons ru ih
theorem Eg (i k n:Nat) (hk:0 < k):sliceBounds (some (i:Int)) none (some (k:Int)) n=(((min i n:Nat):Int),(n:Int),(k:Int)):=by
 unfold sliceBounds
 have h1:¬(i:Int) < 0:=by omega
 have h2:(k:Int) > 0:=by omega
 simp [h1,h2]
 omega
theorem QY {lo st:Expr} {p2:Pos} {eo RP:eA→Option D} (ha:PE X a (tM X.K ea)) (hl:PE X lo (tM X.K eo)) (hs:PE X st (tM X.K RP)) :
  PE X (.Subscript a (.Slice (some lo) none (some st) p2) pos) (tM X.K fun ρ=>(ea ρ).bind fun x=>(eo ρ).bind fun l=>(RP ρ).bind fun h=>Ea x l h):=by
 intro pins s σ H Q I h
 obtain ⟨F,ρ,d,sm,sl,e,q⟩:=h
 obtain ⟨x,e1,e⟩:=ab.mp e
 obtain ⟨y,e2,e⟩:=ab.mp e
 obtain ⟨z,e3,e⟩:=ab.mp e
 obtain ⟨ds,i,k,rfl,rfl,rfl,hk,hz,rfl⟩:∃(ds:List D) (i k:Nat),x=.lst ds∧y=.int (i:Int)∧z=.int (k:Int)∧0 < k∧(pick ds i k).length≤sizeLine∧d=.lst (pick ds i k):=by
  unfold Ea at e
  split at e
  ·split at e
   ·rename_i hz
    exact ⟨_,_,_,rfl,rfl,rfl,hz.1,hz.2,(bA.inj e).symm⟩
   ·cases e
  ·cases e
 refine Subscript_ (gX (ha pins s σ H (fun v H1=>∃F1,Ext F H F1 H1∧Den X.K F1 (.lst ds) v) I ⟨F,ρ,_,sm,sl,e1,fun v F1 H1 ex dn=>⟨F1,ex,dn⟩⟩) fun v s1 ⟨vx,H1,I1,r1,F1,jQ,dn1⟩=>?_)
 refine wpAny_Slice ?_
 rw [evalPart_some,evalPart_none,evalPart_some]
 refine gX (hl pins s1 σ H1 (fun v H2=>∃F2,Ext F1 H1 F2 H2∧Den X.K F2 (.int (i:Int)) v) I1 ⟨F1,ρ,_,jQ.fh,sl.mono jQ.ff,e2,fun v F1 H1 ex dn=>⟨F1,ex,dn⟩⟩) fun vl s2 ⟨vy,H2,I2,r2,F2,iE,dn2⟩=>?_
 refine wpAny_pure ?_
 refine gX (hs pins s2 σ H2 (fun v H3=>∃F3,Ext F2 H2 F3 H3∧Den X.K F3 (.int (k:Int)) v) I2 ⟨F2,ρ,_,iE.fh,(sl.mono jQ.ff).mono iE.ff,e3,fun v F1 H1 ex dn=>⟨F1,ex,dn⟩⟩) fun vs s3 ⟨vz,H3,I3,r3,F3,wX,dn3⟩=>?_
 obtain rfl:=bD dn2
 obtain rfl:=bD dn3
 obtain ⟨t2,rfl⟩:=r2
 obtain ⟨t3,rfl⟩:=r3
 obtain ⟨z1,l1,v1,rfl,h1,rr⟩:=dd (cT (iE.trans wX).ff _ _ dn1)
 cases r1
 have I4:Inv X pins σ H3 { s3 with heap:=s3.heap.push { cls:=.type "slice",data:=.fields #[.int i t2,.none,.int k t3] } }:=I3.kept (t':=s3.toks) fun b ob q=>Heap.get?_push_of_some _ q
 obtain ⟨bR,r,ht,hsz⟩:=I4.list (eS.of (wX.fh _ _ h1))
 have hlen:=r.length
 have Pa:=bM rr
 show wpAny (model X.prog X.w) X.A (subscriptTail a (.Slice (some lo) none (some st) p2) (.ref l1) (.ref s3.heap.objs.size)) (EP X pins σ Q) X.xe { s3 with heap:=s3.heap.push { cls:=.type "slice",data:=.fields #[.int i t2,.none,.int k t3] } }
 refine tail_any (ops:=[.ref l1,.ref s3.heap.objs.size]) ht.isList.typeIs slot_list_getitem.lookup ?_ (by with_unfolding_all rfl)
 refine wpAny_getItem_list_slice (lo:=some (i:Int)) (hi:=none) (st:=some (k:Int)) ht.isList (Heap.IsSliceOf.new ..) (.int _ _) .none (.int _ _) (by simp;omega) ?_ (by rw [aH]<;>omega)
 have ep:slicePick bR.toArray (some (i:Int)) none (some (k:Int))=((sliceRange (min i ds.length:Nat) (ds.length:Nat) (k:Nat)).filterMap fun j=>bR[j]?).toArray:=by
  unfold slicePick
  rw [Eg i k _ hk]
  simp only [aH,←hlen,←Pa,JZ]
 rw [ep]
 have hp:=(I4.fR).fresh (aW _)
 have sU:=Ext.new wX.fh hp (.lst ((sliceRange (min i ds.length:Nat) (ds.length:Nat) (k:Nat)).filterMap fun j=>v1[j]?))
 have dp:cG X.K F3 (pick ds i k) ((sliceRange (min i ds.length:Nat) (ds.length:Nat) (k:Nat)).filterMap fun j=>v1[j]?):=Bq rr _
 refine ⟨.ref _,_,I4.Qn (t':=s3.toks) (Br r _) (by rw [←bM dp];exact hz),rfl,q _ _ _ (jQ.trans (iE.trans (wX.trans sU))) (f9 hz aK (cD sU.ff _ _ dp))⟩
theorem Js {items:List Value} {acc:Array Value} (h:ItemsOf (fun i v=>items.toArray[items.toArray.size - 1 - i]?=some v) acc items.toArray.size):acc=items.reverse.toArray:=by
 obtain ⟨h1,h2⟩:=h
 have key:acc.toList=items.reverse:=by
  apply ky
  intro j
  rw [Array.getElem?_toList]
  by_cases hj:j < items.length
  ·have R3:j < acc.size:=by rw [h1,aH];exact hj
   have e:items.toArray[items.toArray.size - 1 - j]?=some acc[j]:=h2 j acc[j] (Array.getElem?_eq_getElem R3)
   rw [JZ,aH] at e
   rw [Array.getElem?_eq_getElem R3,JY hj,e]
  ·have R3:acc.size≤j:=by rw [h1,aH];omega
   rw [Array.getElem?_eq_none R3,bY (by rw [a7];omega)]
 rw [←key]
theorem T6 {q1 q2:Pos} (J5:X.calm=true) (hg:Gl X "list") (hm:X.mg "list" = none) (hg2:Gl X "reversed") (hm2:X.mg "reversed" = none) (ha:PE X a (tM X.K ea)) (hp:plain a=true) :
  PE X (.Call (.Name "list" p) [.Call (.Name "reversed" q1) [a] [] q2] [] pos) (tM X.K fun ρ=>(ea ρ).bind fun x=>vp .rev x):=by
 intro pins s σ H Q I h
 obtain ⟨F,ρ,d,sm,sl,e,q⟩:=h
 obtain ⟨x,e1,e2⟩:=ab.mp e
 obtain ⟨ds,rfl,rfl⟩:∃ds,x=.lst ds∧d=.lst ds.reverse:=by
  cases x<;>simp only [vp,reduceCtorEq] at e2
  exact ⟨_,rfl,(bA.inj e2).symm⟩
 refine wpAny_Call_Name_kw (oo I hg hm boot_list ?_ (by decide) (by decide))
 refine PyProof.Rows.callWith_type1 ?_ rfl rfl
 refine Calls.spliced_cons ?_
 refine Call_ (oo I hg2 hm2 pV (PyProof.Rows.callWith_type1 (gX ((jP ha pY hp) q2 pins s σ H (fun vs H1=>∃v F1,vs=[v]∧Ext F H F1 H1∧Den X.K F1 (.lst ds) v) I ⟨F,ρ,[.lst ds],sm,sl,by simp [e1],fun vs F1 H1 ex dn=>?_⟩) fun us s1 ⟨vs,H1,I1,r1,v,F1,ev1,jQ,dn⟩=>?_) (by rw [cY hp]) rfl))
 ·obtain ⟨v,r,rfl,d1,d2⟩:=bJ dn
  obtain rfl:=bL d2
  exact ⟨v,F1,rfl,ex,d1⟩
 ·subst ev1
  obtain ⟨u,rfl,ru⟩:=r1.one
  obtain ⟨z1,l1,v1,rfl,h1,rr⟩:=dd dn
  cases ru
  obtain ⟨bR,rv,pl,hz⟩:=I1.list (eS.of (jQ.fh _ _ h1))
  have hlen:=rv.length
  have Pa:=bM rr
  refine call_reversed_list pl.isList ?_
  have I2:Inv X pins σ H1 { s1 with heap:=s1.heap.push (revObj l1 ((bR.toArray.size:Int) - 1)) }:=I1.kept (t':=s1.toks) fun b o e=>Heap.get?_push_of_some _ e
  have hit:(s1.heap.push (revObj l1 ((bR.toArray.size:Int) - 1))).IsRevIter s1.heap.objs.size l1 ((bR.toArray.size:Int) - 1):=⟨_,Heap.get?_push_size _ rfl,rfl,rfl⟩
  have kI:l1≠s1.heap.objs.size:=cF pl.lt
  refine Calls.spliced_nil ?_
  refine z3 (I.ok.hd J5) kI (pl.isList.at fun o e=>Heap.get?_push_of_some _ e) hit (by rw [aH];omega) fun h' tk acc c hk hS Ef=>?_
  have ea:=Js Ef
  subst ea
  have hf:∀b∈[s1.heap.objs.size],ug X pins H1 b:=fun b hb=>by
   obtain rfl:=bZ.mp hb
   exact I1.FQ (aW _) I1.fresh
  have new:i6 X.prog X.w (upd H1 (s1.heap.push (revObj l1 ((bR.toArray.size:Int) - 1))).objs.size (.lst v1.reverse)) h' (s1.heap.push (revObj l1 ((bR.toArray.size:Int) - 1))).objs.size (.lst v1.reverse) :=
   ⟨by rw [a7];exact hz,bR.reverse,c,rv.reverse,hS⟩
  have I3:=I2.uu (t':=tk) (ch:=[s1.heap.objs.size]) (fun b ob hb q=>hk b ob (fun z=>hb (by simp [z])) q) hf (aW _) new
  have RU:H1 (s1.heap.push (revObj l1 ((bR.toArray.size:Int) - 1))).objs.size=none:=I2.fresh
  have iE:=Ext.new jQ.fh RU (.lst v1.reverse)
  exact ⟨.ref _,_,I3,rfl,q _ _ _ (jQ.trans iE) (f9 (by rw [a7];exact z1) aK (cD iE.ff _ _ (Eb rr)))⟩
end
end Mi
namespace Mi
open PySem PySem.Spec PyProof.Rows L2
def yb (x:Expr) (k:Str→Bool):Bool:=match x with|.Name n _=>k n|_=>false
def qF (x:Expr) (k:Const→Bool):Bool:=match x with|.Constant c _ _=>k c|_=>false
def HP (x:Expr) (k:Expr→Operator→Expr→Bool):Bool:=match x with|.BinOp a o b _=>k a o b|_=>false
def Jt (x:Expr) (k:UnaryOp→Expr→Bool):Bool:=match x with|.UnaryOp o a _=>k o a|_=>false
def yc (x:Expr) (k:BoolOp→List Expr→Bool):Bool:=match x with|.BoolOp o l _=>k o l|_=>false
def HQ (x:Expr) (k:Expr→CmpOp→Expr→Bool):Bool:=match x with|.Compare a [o] [b] _=>k a o b|_=>false
def N2 (x:Expr) (k:Expr→Expr→Expr→Bool):Bool:=match x with|.IfExp c a b _=>k c a b|_=>false
def Cg (x:Expr) (k:Expr→Str→Bool):Bool:=match x with|.Attribute a f _=>k a f|_=>false
def jm (x:Expr) (k:Str→List Expr→Bool):Bool:=match x with|.Call (.Name f _) l [] _=>k f l|_=>false
def Ci (x:Expr) (k:Expr→Str→List Expr→Bool):Bool:=match x with|.Call (.Attribute o m apos) l [] jM=>(apos.endLine == jM.line)&&k o m l|_=>false
def Cj (x:Expr) (k:List Expr→Bool):Bool:=match x with|.List l _=>k l|_=>false
def wY (x:Expr) (k:List Expr→Bool):Bool:=match x with|.Tuple l _ _=>k l|_=>false
def Bs (x:Expr) (k:Expr→Expr→Bool):Bool:=match x with|.Subscript a b _=>k a b|_=>false
def wZ (x:Expr) (k:Option Expr→Option Expr→Option Expr→Bool):Bool:=match x with|.Slice a b c _=>k a b c|_=>false
def Gm (x:Expr) (k:Expr→Expr→Expr→List Expr→Scope→Bool):Bool:=match x with|.ListComp e [⟨t,i,l,0⟩] s _=>k e t i l s|_=>false
theorem jR {x:Expr} {k:Str→Bool} (h:yb x k=true):∃n p,x=.Name n p∧k n=true:=by unfold yb at h;split at h;exact ⟨_,_,rfl,h⟩;cases h
theorem fK {x:Expr} {k:Const→Bool} (h:qF x k=true):∃n j p,x=.Constant n j p∧k n=true:=by unfold qF at h;split at h;exact ⟨_,_,_,rfl,h⟩;cases h
theorem uB {x:Expr} {k:Expr→Operator→Expr→Bool} (h:HP x k=true):∃a o b p,x=.BinOp a o b p∧k a o b=true:=by unfold HP at h;split at h;exact ⟨_,_,_,_,rfl,h⟩;cases h
theorem nV {x:Expr} {k:UnaryOp→Expr→Bool} (h:Jt x k=true):∃o a p,x=.UnaryOp o a p∧k o a=true:=by unfold Jt at h;split at h;exact ⟨_,_,_,rfl,h⟩;cases h
theorem jS {x:Expr} {k:BoolOp→List Expr→Bool} (h:yc x k=true):∃o a p,x=.BoolOp o a p∧k o a=true:=by unfold yc at h;split at h;exact ⟨_,_,_,rfl,h⟩;cases h
theorem uC {x:Expr} {k:Expr→CmpOp→Expr→Bool} (h:HQ x k=true):∃a o b p,x=.Compare a [o] [b] p∧k a o b=true:=by unfold HQ at h;split at h;exact ⟨_,_,_,_,rfl,h⟩;cases h
theorem Eh {x:Expr} {k:Expr→Expr→Expr→Bool} (h:N2 x k=true):∃c a b p,x=.IfExp c a b p∧k c a b=true:=by unfold N2 at h;split at h;exact ⟨_,_,_,_,rfl,h⟩;cases h
theorem rZ {x:Expr} {k:Expr→Str→Bool} (h:Cg x k=true):∃a f p,x=.Attribute a f p∧k a f=true:=by unfold Cg at h;split at h;exact ⟨_,_,_,rfl,h⟩;cases h
theorem cJ {x:Expr} {k:Str→List Expr→Bool} (h:jm x k=true):∃f p l q,x=.Call (.Name f p) l [] q∧k f l=true:=by unfold jm at h;split at h;exact ⟨_,_,_,_,rfl,h⟩;cases h
theorem r0 {x:Expr} {k:Expr→Str→List Expr→Bool} (h:Ci x k=true):∃o m p l q,x=.Call (.Attribute o m p) l [] q∧(p.endLine == q.line)=true∧k o m l=true:=by
 unfold Ci at h;split at h
 ·rw [ag] at h;exact ⟨_,_,_,_,_,rfl,h.1,h.2⟩
 ·cases h
theorem l6 {x:Expr} {k:List Expr→Bool} (h:Cj x k=true):∃l p,x=.List l p∧k l=true:=by unfold Cj at h;split at h;exact ⟨_,_,rfl,h⟩;cases h
theorem p0 {x:Expr} {k:List Expr→Bool} (h:wY x k=true):∃l j p,x=.Tuple l j p∧k l=true:=by unfold wY at h;split at h;exact ⟨_,_,_,rfl,h⟩;cases h
theorem ie {x:Expr} {k:Expr→Expr→Bool} (h:Bs x k=true):∃a b p,x=.Subscript a b p∧k a b=true:=by unfold Bs at h;split at h;exact ⟨_,_,_,rfl,h⟩;cases h
theorem vv {x:Expr} {k:Option Expr→Option Expr→Option Expr→Bool} (h:wZ x k=true):∃a b c p,x=.Slice a b c p∧k a b c=true:=by unfold wZ at h;split at h;exact ⟨_,_,_,_,rfl,h⟩;cases h
theorem ou {x:Expr} {k:Expr→Expr→Expr→List Expr→Scope→Bool} (h:Gm x k=true):∃e t i l s p,x=.ListComp e [⟨t,i,l,0⟩] s p∧k e t i l s=true:=by unfold Gm at h;split at h;exact ⟨_,_,_,_,_,_,rfl,h⟩;cases h
def Li (sc:Scope) (x:Str):Bool:=match sc.names.lookup x with|some .local=>true|some .cell=>true|some .free=>true|_=>false
def Ju (sc:Scope) (x:Str):Bool:=match sc.names.lookup x with|some .local=>true|some .cell=>true|_=>false
def pD (sc:Scope) (x:Str):Bool:=match sc.names.lookup x with|some .globalImplicit=>true|_=>false
def r4 (x:Str):Bool:=!(x == ("__debug__" : Str))&&!(x == ("__classdict__" : Str))
def Es.len:Es→Nat
 | .nil=>0
 | .cons _ r=>r.len+1
def Lj:O2→Option Operator
 | .add=>some .Add|.sub=>some .Sub|.mul=>some .Mult|.fdiv=>some .FloorDiv|.mod=>some .Mod|.shl=>some .LShift|.bor=>some .BitOr|.band=>some .BitAnd
 | _=>none
def Lk:O2→Option CmpOp
 | .lt=>some .Lt|.le=>some .LtE|.gt=>some .Gt|.ge=>some .GtE|.eq=>some .Eq|.ne=>some .NotEq|.isin=>some .In|.rF=>some .NotIn
 | _=>none
def QZ:O1→Option Str
 | .len=>some "len" | .all=>some "all" | .any=>some "any" | .sum=>some "sum" | .list=>some "list"
 | _=>none
def qG:Tg→Expr→Option (List (Str×Nat))
 | .nm i,.Name y _=>some [(y,i)]
 | .tp [i,j],.Tuple [.Name y _,.Name z _] _ _=>some [(y,i),(z,j)]
 | _,_=>none
def Q0 (N:List Str) (sc:Scope) (l:List (Str×Nat)):Bool:=l.all fun p=>decide (N[p.2]?=some p.1)&&Ju sc p.1
mutual
def je:E→Bool
 | .ite _ _ _=>false
 | .not a=>je a
 | .and l=>sW l
 | .or l=>sW l
 | _=>true
def sW:Es→Bool
 | .nil=>true
 | .cons a r=>je a&&sW r
end
def isTup:Expr→Bool
 | .Tuple ..=>true
 | _=>false
mutual
def bK (N:List Str) (sc:Scope):E→Expr→Bool
 | .var i,x=>yb x fun n=>decide (N[i]?=some n)&&Li sc n&&r4 n
 | .int z,x=>qF x fun c=>decide (c=.int z)
 | .bl z,x=>qF x fun c=>decide (c=.bool z)
 | .gg,x=>qF x fun c=>decide (c=.none)
 | .gl y _,x=>yb x fun n=>decide (n=y)&&pD sc n&&r4 n
 | .op o a b,x=>match Lj o with
  | some op=>HP x fun xa Q1 xb=>decide (Q1=op)&&bK N sc a xa&&bK N sc b xb
  | none=>match Lk o with
   | some op=>HQ x fun xa Q1 xb=>decide (Q1=op)&&bK N sc a xa&&bK N sc b xb
   | none=>false
 | .un o a,x=>match QZ o with
  | some f=>jm x fun f' l=>decide (f'=f)&&pD sc f&&(match l with|[xa]=>bK N sc a xa|_=>false)
  | none=>match o with
   | .neg=>Jt x fun op xa=>decide (op=.USub)&&bK N sc a xa
   | .rev=>jm x fun f' l=>decide (f' = "list")&&pD sc "list" && pD sc "reversed" && (match l with|[y]=>jm y fun f2 l2=>decide (f2 = "reversed")&&(match l2 with|[xa]=>bK N sc a xa|_=>false)|_=>false)
   | _=>false
 | .not a,x=>Jt x fun op xa=>decide (op=.Not)&&bK N sc a xa
 | .and l,x=>yc x fun op xs=>decide (op=.And)&&decide (0 < l.len)&&eB N sc l xs
 | .or l,x=>yc x fun op xs=>decide (op=.Or)&&decide (0 < l.len)&&eB N sc l xs
 | .ite c a b,x=>N2 x fun xc xa xb=>je c&&bK N sc c xc&&bK N sc a xa&&bK N sc b xb
 | .fld a f,x=>Cg x fun xa f'=>decide (f'=f)&&based xa&&bK N sc a xa
 | .call f _ l,x=>jm x fun f' xs=>decide (f'=f)&&pD sc f&&r4 f&&decide (0 < l.len)&&eB N sc l xs
 | .lst l,x=>Cj x fun xs=>decide (l.len≤1000)&&eB N sc l xs
 | .tup l,x=>wY x fun xs=>decide (l.len≤1000)&&eB N sc l xs
 | .ix a b,x=>Bs x fun xa xb=>bK N sc a xa&&bK N sc b xb
 | .sl a lo hi,x=>Bs x fun xa xb=>bK N sc a xa&&wZ xb fun l h st=>st.isNone&&Jv N sc lo l&&Jv N sc hi h
 | .step a lo st,x=>Bs x fun xa xb=>bK N sc a xa&&wZ xb fun l h s=>h.isNone&&(match l with|some xl=>bK N sc lo xl|none=>false)&&(match s with|some xs=>bK N sc st xs|none=>false)
 | .cnt a b,x=>Ci x fun xa m l=>decide (m = "count")&&based xa&&bK N sc a xa&&(match l with|[xb]=>bK N sc b xb|_=>false)
 | .comp t it c e,x=>Gm x fun xe xt xi xl scope=>match qG t xt with
  | some own=>Qy N sc scope own&&Q0 N scope own&&decide (own.map (·.2)=t.slots)&&rg N sc it xi (isTup xt)&&Jw N (Qv scope sc) c xl&&bK N (Qv scope sc) e xe
  | none=>false
def eB (N:List Str) (sc:Scope):Es→List Expr→Bool
 | .nil,[]=>true
 | .cons a r,x::xs=>bK N sc a x&&eB N sc r xs
 | _,_=>false
def Jv (N:List Str) (sc:Scope):Oe→Option Expr→Bool
 | .no,none=>true
 | .yes a,some x=>bK N sc a x
 | _,_=>false
def Jw (N:List Str) (sc:Scope):Oe→List Expr→Bool
 | .no,[]=>true
 | .yes a,[x]=>je a&&bK N sc a x
 | _,_=>false
def rg (N:List Str) (sc:Scope):It→Expr→Bool→Bool
 | .lst a,x,_=>bK N sc a x
 | .pB a,x,_=>jm x fun f l=>decide (f = "range")&&pD sc f&&(match l with|[xa]=>bK N sc a xa|_=>false)
 | .D_ a b,x,_=>jm x fun f l=>decide (f = "range")&&pD sc f&&(match l with|[xa,xb]=>bK N sc a xa&&bK N sc b xb|_=>false)
 | .enum a,x,k=>jm x fun f l=>decide (f = "enumerate")&&pD sc f&&k&&(match l with|[xa]=>bK N sc a xa|_=>false)
 | .zip a b,x,k=>jm x fun f l=>decide (f = "zip")&&pD sc f&&k&&(match l with|[xa,xb]=>bK N sc a xa&&bK N sc b xb|_=>false)
 | .rev a,x,_=>jm x fun f l=>decide (f = "reversed")&&pD sc f&&(match l with|[xa]=>bK N sc a xa|_=>false)
end
mutual
def dI (c:Cc):E→Prop
 | .gl x d=>kJ c.K c.mg x d
 | .op _ a b=>dI c a∧dI c b
 | .un _ a=>dI c a
 | .not a=>dI c a
 | .and l=>cU c l
 | .or l=>cU c l
 | .ite a b d=>dI c a∧dI c b∧dI c d
 | .fld a _=>dI c a
 | .call x g l=>fH c x g∧cU c l
 | .lst l=>cU c l
 | .tup l=>cU c l
 | .ix a b=>dI c a∧dI c b
 | .sl a lo hi=>dI c a∧iH c lo∧iH c hi
 | .step a b d=>dI c a∧dI c b∧dI c d
 | .cnt a b=>dI c a∧dI c b
 | .comp _ it k e=>iC c it∧iH c k∧dI c e
 | .var _=>True
 | .int _=>True
 | .bl _=>True
 | .gg=>True
def cU (c:Cc):Es→Prop
 | .nil=>True
 | .cons a r=>dI c a∧cU c r
def iH (c:Cc):Oe→Prop
 | .no=>True
 | .yes a=>dI c a
def iC (c:Cc):It→Prop
 | .lst a=>dI c a
 | .pB a=>dI c a
 | .D_ a b=>dI c a∧dI c b
 | .enum a=>dI c a
 | .zip a b=>dI c a∧dI c b
 | .rev a=>dI c a
end
structure Vp (mg:Str→Option Value):Prop where
 len:mg "len" = none
 range:mg "range" = none
 list:mg "list" = none
 reversed:mg "reversed" = none
 enumerate:mg "enumerate" = none
 zip:mg "zip" = none
 all:mg "all" = none
 any:mg "any" = none
 sum:mg "sum" = none
structure Good (X:Cx) (k:Nat):Prop where
 room:jI k X.A
 calm:X.calm=true
 nd:X.N.Nodup
 blt:Vp X.mg
theorem Ck {sc:Scope} {x:Str} (h:Li sc x=true):OM sc x:=by
 unfold Li at h
 split at h<;>first|exact .inl (by assumption)|exact .inr (.inl (by assumption))|exact .inr (.inr (by assumption))|cases h
theorem w8 {sc:Scope} {x:Str} (h:Ju sc x=true):Loc sc x:=by
 unfold Ju at h
 split at h<;>first|exact .inl (by assumption)|exact .inr (by assumption)|cases h
theorem fX {X:Cx} {x:Str} (h:pD X.env.scope x=true):Gl X x:=by
 unfold pD at h
 split at h
 ·assumption
 ·cases h
theorem i8 {x:Str} (h:r4 x=true):(x == ("__debug__" : Str))=false∧(x == ("__classdict__" : Str))=false:=by
 unfold r4 at h
 rw [ag,eX,eX] at h
 exact h
theorem Good.ra {X:Cx} {k:Nat} (g:Good X k) (s:Shared) (H:Hp) (scope:Scope) (cl:List (Str×Addr)) (C:Addr) (fp:List Addr):Good (X.ra s H scope (compEnvC scope cl C X.env) fp) k :=
 ⟨g.room,g.calm,g.nd,g.blt⟩
theorem c7 {N:List Str} {sc:Scope}:∀{e:E} {x:Expr},bK N sc e x=true→plain x=true
 | .var _,_,h=>by unfold bK at h;obtain ⟨_,_,rfl,_⟩:=jR h;rfl
 | .int _,_,h=>by unfold bK at h;obtain ⟨_,_,_,rfl,_⟩:=fK h;rfl
 | .bl _,_,h=>by unfold bK at h;obtain ⟨_,_,_,rfl,_⟩:=fK h;rfl
 | .gg,_,h=>by unfold bK at h;obtain ⟨_,_,_,rfl,_⟩:=fK h;rfl
 | .gl _ _,_,h=>by unfold bK at h;obtain ⟨_,_,rfl,_⟩:=jR h;rfl
 | .op o _ _,_,h=>by
  unfold bK at h
  split at h
  ·obtain ⟨_,_,_,_,rfl,_⟩:=uB h;rfl
  ·split at h
   ·obtain ⟨_,_,_,_,rfl,_⟩:=uC h;rfl
   ·cases h
 | .un o _,_,h=>by
  unfold bK at h
  split at h
  ·obtain ⟨_,_,_,_,rfl,_⟩:=cJ h;rfl
  ·split at h
   ·obtain ⟨_,_,_,rfl,_⟩:=nV h;rfl
   ·obtain ⟨_,_,_,_,rfl,_⟩:=cJ h;rfl
   ·cases h
 | .not _,_,h=>by unfold bK at h;obtain ⟨_,_,_,rfl,_⟩:=nV h;rfl
 | .and _,_,h=>by unfold bK at h;obtain ⟨_,_,_,rfl,_⟩:=jS h;rfl
 | .or _,_,h=>by unfold bK at h;obtain ⟨_,_,_,rfl,_⟩:=jS h;rfl
 | .ite _ _ _,_,h=>by unfold bK at h;obtain ⟨_,_,_,_,rfl,_⟩:=Eh h;rfl
 | .fld _ _,_,h=>by unfold bK at h;obtain ⟨_,_,_,rfl,_⟩:=rZ h;rfl
 | .call _ _ _,_,h=>by unfold bK at h;obtain ⟨_,_,_,_,rfl,_⟩:=cJ h;rfl
 | .lst _,_,h=>by unfold bK at h;obtain ⟨_,_,rfl,_⟩:=l6 h;rfl
 | .tup _,_,h=>by unfold bK at h;obtain ⟨_,_,_,rfl,_⟩:=p0 h;rfl
 | .ix _ _,_,h=>by unfold bK at h;obtain ⟨_,_,_,rfl,_⟩:=ie h;rfl
 | .sl _ _ _,_,h=>by unfold bK at h;obtain ⟨_,_,_,rfl,_⟩:=ie h;rfl
 | .step _ _ _,_,h=>by unfold bK at h;obtain ⟨_,_,_,rfl,_⟩:=ie h;rfl
 | .cnt _ _,_,h=>by unfold bK at h;obtain ⟨_,_,_,_,_,rfl,_⟩:=r0 h;rfl
 | .comp _ _ _ _,_,h=>by unfold bK at h;obtain ⟨_,_,_,_,_,_,rfl,_⟩:=ou h;rfl
theorem fO {N:List Str} {sc:Scope}:∀{l:Es} {xs:List Expr},eB N sc l xs=true→xs.all plain=true∧xs.length=l.len
 | .nil,[],_=>⟨rfl,rfl⟩
 | .cons a r,x::xs,h=>by
  unfold eB at h
  rw [ag] at h
  obtain ⟨h1,h2⟩:=fO h.2
  exact ⟨by rw [dk,c7 h.1,h1];rfl,by simp [Es.len,h2]⟩
 | .nil,_::_,h=>by unfold eB at h;cases h
 | .cons _ _,[],h=>by unfold eB at h;cases h
theorem p6:∀{l:Es} {ρ:eA} {ds:List D},jO l ρ=some ds→ds.length=l.len
 | .nil,_,_,h=>by unfold jO at h;cases h;rfl
 | .cons a r,ρ,ds,h=>by
  unfold jO at h
  obtain ⟨x,_,h⟩:=ab.mp h
  obtain ⟨xs,e,h⟩:=ab.mp h
  cases h
  simp [Es.len,p6 e]
theorem Gn {t:Tg} {x:Expr} {own:List (Str×Nat)} (h:qG t x=some own):∀l,t=.tp l→l.length=2:=by
 intro l e
 subst e
 unfold qG at h
 split at h
 ·rename_i q;cases q
 ·rename_i q;cases q;rfl
 ·cases h
theorem Gp {X:Cx} {t:Tg} {x:Expr} {own:List (Str×Nat)} (hc:X.calm=true) (hN:X.N.Nodup) (h:qG t x=some own) (hi:∀p∈own,X.N[p.2]?=some p.1) (hl:∀p∈own,Loc X.env.scope p.1∧(X.fn p.1=true∨X.env.scope.names.lookup p.1=some .local)):PG X x (Cf X.K t):=by
 unfold qG at h
 split at h
 ·cases h
  have h1:=hi _ (bZ.mpr rfl)
  have h2:=hl _ (bZ.mpr rfl)
  exact wN hN h1 h2.1 h2.2
 ·cases h
  rename_i i j y p z q _ _
  have h1:=hi (y,i) (by simp)
  have h2:=hl (y,i) (by simp)
  have h3:=hi (z,j) (by simp)
  have h4:=hl (z,j) (by simp)
  exact P4 hc (DL (wN hN h1 h2.1 h2.2) (DL (wN hN h3 h4.1 h4.2) Nl))
 ·cases h
theorem qH {N:List Str} {sc:Scope} {l:List (Str×Nat)} (h:Q0 N sc l=true):∀p∈l,N[p.2]?=some p.1∧Loc sc p.1:=fun p hp=>by
 have:=aX.mp h p hp
 rw [ag,decide_eq_true_eq] at this
 exact ⟨this.1,w8 this.2⟩
theorem HR {X:Cx} {s:Shared} {H:Hp} {scope:Scope} {cl:List (Str×Addr)} {C:Addr} {fp:List Addr} {x:Str} (h:Loc scope x) :
  Loc (X.ra s H scope (compEnvC scope cl C X.env) fp).env.scope x∧((X.ra s H scope (compEnvC scope cl C X.env) fp).fn x=true∨(X.ra s H scope (compEnvC scope cl C X.env) fp).env.scope.names.lookup x=some .local):=by
 rcases h with h|h
 ·have q:=jN (sc:=X.env.scope) (k:=.local) (by decide) h
  exact ⟨.inl q,.inr q⟩
 ·have q:=jN (sc:=X.env.scope) (k:=.cell) (by decide) h
  refine ⟨.inr q,.inl ?_⟩
  show (scope.names.lookup x == some .cell)=true
  rw [h];rfl
theorem Q2 {X:Cx} {o:O2} {op:Operator} (h:Lj o=some op):ka X (binaryOp op) (RD X.K (iA o)):=by
 cases o<;>simp only [Lj,reduceCtorEq,bA.injEq] at h<;>subst h
 ·exact Tv
 ·exact Tw
 ·exact Tz
 ·exact QL
 ·exact TB
 ·exact TC
 ·exact TF
 ·exact QM
theorem Ll {X:Cx} {o:O2} {op:CmpOp} (hu:X.A.units+64 < cLine) (h:Lk o=some op):ka X (compareOp op) (RD X.K (iA o)):=by
 cases o<;>simp only [Lk,reduceCtorEq,bA.injEq] at h<;>subst h
 ·exact W9
 ·exact W_
 ·exact Xd
 ·exact Xe
 ·exact Xf hu
 ·exact Xg hu
 ·exact Xh
 ·exact NY
theorem Xq {X:Cx} {o:O1} {f:Str} {a:Expr} {p pos:Pos} {ea:eA→Option D} {k:Nat} (G:Good X k) (h:QZ o=some f) (hg:Gl X f) (ha:PE X a (tM X.K ea)) (hp:plain a=true):PE X (.Call (.Name f p) [a] [] pos) (tM X.K fun ρ=>(ea ρ).bind fun x=>vp o x):=by
 cases o<;>simp only [QZ,reduceCtorEq,bA.injEq] at h<;>subst h
 ·exact TN hg G.blt.len ha hp
 ·exact TQ G.calm hg G.blt.all ha hp
 ·exact TR G.calm hg G.blt.any ha hp
 ·exact TU G.calm hg G.blt.sum ha hp
 ·exact QP hg G.blt.list ha hp
end Mi
namespace Mi
open PySem PySem.Spec PyProof.Rows L2
section
variable {X:Cx} {x:Expr}
theorem gk {f g:eA→Option D} (h:PE X x (tM X.K f)) (e:∀ρ,g ρ=f ρ):PE X x (tM X.K g):=by
 have:g=f:=funext e
 rw [this];exact h
theorem HS {f g:eA→Option D} (h:PT X x (sR X.K fun ρ=>(f ρ).bind fB)) (e:∀ρ,g ρ=f ρ):PT X x (sR X.K fun ρ=>(g ρ).bind fB):=by
 have:g=f:=funext e
 rw [this];exact h
theorem HU {f g:eA→Option D} (h:PW X x (sR X.K fun ρ=>(f ρ).bind fB)) (e:∀ρ,g ρ=f ρ):PW X x (sR X.K fun ρ=>(g ρ).bind fB):=by
 have:g=f:=funext e
 rw [this];exact h
theorem Pb {xs:List Expr} {f g:eA→Option (List D)} (h:PA X xs (HH X.K f)) (e:∀ρ,g ρ=f ρ):PA X xs (HH X.K g):=by
 have:g=f:=funext e
 rw [this];exact h
theorem Bt {tg:Expr} {f g:eA→Option (List D)} (h:PI X tg x (HI X.K f)) (e:∀ρ,g ρ=f ρ):PI X tg x (HI X.K g):=by
 have:g=f:=funext e
 rw [this];exact h
theorem Pc {o:Option Expr} {f g:eA→Option (Option Int)} (h:PO X o (QG X.K f)) (e:∀ρ,g ρ=f ρ):PO X o (QG X.K g):=by
 have:g=f:=funext e
 rw [this];exact h
theorem ox {N:List Str} {sc:Scope} {k:Bool}:∀{it:It} {x:Expr},rg N sc it x k=true→plain x=true
 | .lst _,_,h=>by unfold rg at h;exact c7 h
 | .pB _,_,h=>by unfold rg at h;obtain ⟨_,_,_,_,rfl,_⟩:=cJ h;rfl
 | .D_ _ _,_,h=>by unfold rg at h;obtain ⟨_,_,_,_,rfl,_⟩:=cJ h;rfl
 | .enum _,_,h=>by unfold rg at h;obtain ⟨_,_,_,_,rfl,_⟩:=cJ h;rfl
 | .zip _ _,_,h=>by unfold rg at h;obtain ⟨_,_,_,_,rfl,_⟩:=cJ h;rfl
 | .rev _,_,h=>by unfold rg at h;obtain ⟨_,_,_,_,rfl,_⟩:=cJ h;rfl
theorem Bu {x:Expr} (h:isTup x=true):∃l k p,x=.Tuple l k p:=by
 unfold isTup at h
 split at h
 ·exact ⟨_,_,_,rfl⟩
 ·cases h
theorem oy {f:Expr→Bool} {l:List Expr} (h:(match l with|[xa]=>f xa|_=>false)=true):∃xa,l=[xa]∧f xa=true:=by
 split at h
 ·exact ⟨_,rfl,h⟩
 ·cases h
theorem HV {f:Expr→Bool} {l:Option Expr} (h:(match l with|some x=>f x|none=>false)=true):∃x,l=some x∧f x=true:=by
 split at h
 ·exact ⟨_,rfl,h⟩
 ·cases h
theorem HW {f:Expr→Expr→Bool} {l:List Expr} (h:(match l with|[xa,xb]=>f xa xb|_=>false)=true):∃xa xb,l=[xa,xb]∧f xa xb=true:=by
 split at h
 ·exact ⟨_,_,rfl,h⟩
 ·cases h
end
mutual
theorem sE {k:Nat}:∀(e:E) {X:Cx} {x:Expr},Good X k→dI (Cx.cc X k) e→bK X.N X.env.scope e x=true→PE X x (tM X.K (bF e))
 | .var i,X,x,G,ok,h=>by
  unfold bK at h
  have hi:=jR h
  clear h
  obtain ⟨n,p,rfl,h⟩:=hi
  simp only [ag,decide_eq_true_eq] at h
  exact gk (Tj h.1.1 (Ck h.1.2) (i8 h.2).1 (i8 h.2).2) fun ρ=>by simp only [bF]
 | .int z,X,x,G,ok,h=>by
  unfold bK at h
  have hi:=fK h
  clear h
  obtain ⟨n,j,p,rfl,h⟩:=hi
  obtain rfl:=of_decide_eq_true h
  exact gk To fun ρ=>by simp only [bF]
 | .bl z,X,x,G,ok,h=>by
  unfold bK at h
  have hi:=fK h
  clear h
  obtain ⟨n,j,p,rfl,h⟩:=hi
  obtain rfl:=of_decide_eq_true h
  exact gk W4 fun ρ=>by simp only [bF]
 | .gg,X,x,G,ok,h=>by
  unfold bK at h
  have hi:=fK h
  clear h
  obtain ⟨n,j,p,rfl,h⟩:=hi
  obtain rfl:=of_decide_eq_true h
  exact gk Tp fun ρ=>by simp only [bF]
 | .gl y d,X,x,G,ok,h=>by
  unfold bK at h
  have hi:=jR h
  clear h
  obtain ⟨n,p,rfl,h⟩:=hi
  simp only [ag,decide_eq_true_eq] at h
  obtain ⟨⟨rfl,h1⟩,h2⟩:=h
  unfold dI at ok
  exact gk (W5 (fX h1) ok (i8 h2).1) fun ρ=>by simp only [bF]
 | .op o a b,X,x,G,ok,h=>by
  unfold bK at h
  unfold dI at ok
  split at h
  ·rename_i op T7
   have hi:=uB h
   clear h
   obtain ⟨xa,Q1,xb,p,rfl,h⟩:=hi
   simp only [ag,decide_eq_true_eq] at h
   obtain ⟨⟨rfl,h1⟩,h2⟩:=h
   exact gk (W6 (Q2 T7) (sE a G ok.1 h1) (sE b G ok.2 h2)) fun ρ=>by simp only [bF]
  ·split at h
   ·rename_i op T7
    have hi:=uC h
    clear h
    obtain ⟨xa,Q1,xb,p,rfl,h⟩:=hi
    simp only [ag,decide_eq_true_eq] at h
    obtain ⟨⟨rfl,h1⟩,h2⟩:=h
    exact gk (Tq (Ll G.room.units T7) (sE a G ok.1 h1) (sE b G ok.2 h2) (xX _ (c7 h2))) fun ρ=>by simp only [bF]
   ·cases h
 | .un o a,X,x,G,ok,h=>by
  unfold bK at h
  unfold dI at ok
  split at h
  ·rename_i f hf
   have hi:=cJ h
   clear h
   obtain ⟨f',p,l,q,rfl,h⟩:=hi
   simp only [ag,decide_eq_true_eq] at h
   obtain ⟨⟨rfl,h1⟩,h2⟩:=h
   have hi:=oy h2
   clear h2
   obtain ⟨xa,rfl,h2⟩:=hi
   exact gk (Xq G hf (fX h1) (sE a G ok h2) (c7 h2)) fun ρ=>by simp only [bF]
  ·split at h
   ·have hi:=nV h
    clear h
    obtain ⟨op,xa,p,rfl,h⟩:=hi
    simp only [ag,decide_eq_true_eq] at h
    obtain ⟨rfl,h⟩:=h
    exact gk (TV (sE a G ok h)) fun ρ=>by simp only [bF]
   ·have hi:=cJ h
    clear h
    obtain ⟨f',p,l,q,rfl,h⟩:=hi
    simp only [ag,decide_eq_true_eq] at h
    obtain ⟨⟨⟨rfl,h1⟩,h2⟩,h3⟩:=h
    have hi:=oy h3
    clear h3
    obtain ⟨y,rfl,h3⟩:=hi
    have hi:=cJ h3
    clear h3
    obtain ⟨f2,p2,l2,q2,rfl,h3⟩:=hi
    simp only [ag,decide_eq_true_eq] at h3
    obtain ⟨rfl,h3⟩:=h3
    have hi:=oy h3
    clear h3
    obtain ⟨xa,rfl,h3⟩:=hi
    exact gk (T6 (G.calm) (fX h1) G.blt.list (fX h2) G.blt.reversed (sE a G ok h3) (c7 h3)) fun ρ=>by simp only [bF]
   ·cases h
 | .not a,X,x,G,ok,h=>by
  unfold bK at h
  unfold dI at ok
  have hi:=nV h
  clear h
  obtain ⟨op,xa,p,rfl,h⟩:=hi
  simp only [ag,decide_eq_true_eq] at h
  obtain ⟨rfl,h⟩:=h
  exact gk (Tr (sE a G ok h)) fun ρ=>by simp only [bF]
 | .and l,X,x,G,ok,h=>by
  unfold bK at h
  unfold dI at ok
  have hi:=jS h
  clear h
  obtain ⟨op,xs,p,rfl,h⟩:=hi
  simp only [ag,decide_eq_true_eq] at h
  obtain ⟨⟨rfl,h1⟩,h2⟩:=h
  exact gk (T8 l G ok h1 h2) fun ρ=>by simp only [bF]
 | .or l,X,x,G,ok,h=>by
  unfold bK at h
  unfold dI at ok
  have hi:=jS h
  clear h
  obtain ⟨op,xs,p,rfl,h⟩:=hi
  simp only [ag,decide_eq_true_eq] at h
  obtain ⟨⟨rfl,h1⟩,h2⟩:=h
  exact gk (Yw l G ok h1 h2) fun ρ=>by simp only [bF]
 | .ite c a b,X,x,G,ok,h=>by
  unfold bK at h
  unfold dI at ok
  have hi:=Eh h
  clear h
  obtain ⟨xc,xa,xb,p,rfl,h⟩:=hi
  simp only [ag] at h
  exact gk (Ts (sT c G ok.1 h.1.1.2 h.1.1.1) (sE a G ok.2.1 h.1.2) (sE b G ok.2.2 h.2)) fun ρ=>by simp only [bF]<;>rfl
 | .fld a f,X,x,G,ok,h=>by
  unfold bK at h
  unfold dI at ok
  have hi:=rZ h
  clear h
  obtain ⟨xa,f',p,rfl,h⟩:=hi
  simp only [ag,decide_eq_true_eq] at h
  obtain ⟨⟨rfl,h1⟩,h2⟩:=h
  exact gk (TJ (sE a G ok h2) h1) fun ρ=>by simp only [bF]
 | .call f g l,X,x,G,ok,h=>by
  unfold bK at h
  unfold dI at ok
  have hi:=cJ h
  clear h
  obtain ⟨f',p,xs,q,rfl,h⟩:=hi
  simp only [ag,decide_eq_true_eq] at h
  obtain ⟨⟨⟨⟨rfl,h1⟩,h2⟩,h3⟩,h4⟩:=h
  obtain ⟨hp,hl⟩:=fO h4
  have kI:xs≠[]:=fun z=>by rw [z] at hl;simp at hl;omega
  exact gk (QN ok.1 G.room (fX h1) (R4 l G ok.2 h4) hp kI (i8 h2).1) fun ρ=>by simp only [bF]
 | .lst l,X,x,G,ok,h=>by
  unfold bK at h
  unfold dI at ok
  have hi:=l6 h
  clear h
  obtain ⟨xs,p,rfl,h⟩:=hi
  simp only [ag,decide_eq_true_eq] at h
  have hz:(1000:Nat)≤sizeLine:=by decide
  exact gk (TK (R4 l G ok h.2) fun ρ ds e=>by rw [p6 e];omega) fun ρ=>by simp only [bF]
 | .tup l,X,x,G,ok,h=>by
  unfold bK at h
  unfold dI at ok
  have hi:=p0 h
  clear h
  obtain ⟨xs,j,p,rfl,h⟩:=hi
  simp only [ag,decide_eq_true_eq] at h
  have hz:(1000:Nat)≤sizeLine:=by decide
  exact gk (TM (R4 l G ok h.2) fun ρ ds e=>by rw [p6 e];omega) fun ρ=>by simp only [bF]
 | .ix a b,X,x,G,ok,h=>by
  unfold bK at h
  unfold dI at ok
  have hi:=ie h
  clear h
  obtain ⟨xa,xb,p,rfl,h⟩:=hi
  simp only [ag] at h
  exact gk (Xi (sE a G ok.1 h.1) (sE b G ok.2 h.2) (c7 h.2)) fun ρ=>by simp only [bF]
 | .sl a lo hi,X,x,G,ok,h=>by
  unfold bK at h
  unfold dI at ok
  have hi:=ie h
  clear h
  obtain ⟨xa,xb,p,rfl,h⟩:=hi
  simp only [ag] at h
  obtain ⟨h1,h2⟩:=h
  have hi:=vv h2
  clear h2
  obtain ⟨l,u,st,q,rfl,h2⟩:=hi
  simp only [ag,Dv] at h2
  obtain ⟨⟨rfl,h3⟩,h4⟩:=h2
  exact gk (Xk (sE a G ok.1 h1) (sO lo G ok.2.1 h3) (sO hi G ok.2.2 h4)) fun ρ=>by simp only [bF]
 | .step a lo st,X,x,G,ok,h=>by
  unfold bK at h
  unfold dI at ok
  have hi:=ie h
  clear h
  obtain ⟨xa,xb,p,rfl,h⟩:=hi
  simp only [ag] at h
  obtain ⟨h1,h2⟩:=h
  have hi:=vv h2
  clear h2
  obtain ⟨l,u,s,q,rfl,h2⟩:=hi
  simp only [ag,Dv] at h2
  obtain ⟨⟨rfl,h3⟩,h4⟩:=h2
  have hi:=HV h3
  clear h3
  obtain ⟨l,rfl,h3⟩:=hi
  have hi:=HV h4
  clear h4
  obtain ⟨s,rfl,h4⟩:=hi
  exact gk (QY (sE a G ok.1 h1) (sE lo G ok.2.1 h3) (sE st G ok.2.2 h4)) fun ρ=>by simp only [bF]
 | .cnt a b,X,x,G,ok,h=>by
  unfold bK at h
  unfold dI at ok
  have hi:=r0 h
  clear h
  obtain ⟨o,m,p,l,q,rfl,hl,h⟩:=hi
  simp only [ag,decide_eq_true_eq] at h
  obtain ⟨⟨⟨rfl,h1⟩,h2⟩,h3⟩:=h
  have hi:=oy h3
  clear h3
  obtain ⟨xb,rfl,h3⟩:=hi
  exact gk (T5 (sE a G ok.1 h2) h1 (sE b G ok.2 h3) (c7 h3) hl) fun ρ=>by simp only [bF]
 | .comp t it c e,X,x,G,ok,h=>by
  unfold bK at h
  unfold dI at ok
  have hi:=ou h
  clear h
  obtain ⟨xe,xt,xi,xl,scope,p,rfl,h⟩:=hi
  split at h
  ·rename_i own Ei
   simp only [ag,decide_eq_true_eq] at h
   obtain ⟨⟨⟨⟨⟨h1,h2⟩,h3⟩,h4⟩,h5⟩,h6⟩:=h
   have q:PE X (.ListComp xe [⟨xt,xi,xl,0⟩] scope p) (OX (HI X.K (pC it)) (Cf X.K t) (sR X.K (Bj c)) (tM X.K (bF e)) (own.map (·.2))) :=
    OY G.calm G.nd (sI it G ok.1 h4) (xO h1)
     (fun s H C cl fp=>Gp (X:=X.ra s H scope (compEnvC scope cl C X.env) fp) G.calm G.nd Ei (fun p hp=>(qH h2 p hp).1) fun p hp=>HR (qH h2 p hp).2)
     (fun s H C cl fp=>sC c (G.ra s H scope cl C fp) ok.2.1 h5)
     (fun s H C cl fp=>sE e (G.ra s H scope cl C fp) ok.2.2 h6) (ot (ox h4))
   rw [h3] at q
   exact fi q fun σ H Q hq=>O_ (Gn Ei) (by
    have e1:(fun ρ=>(pC it ρ).bind fun ds=>(iB (Bj c) (bF e) t (i7 ρ t.slots) ds).bind fun l=>some (.lst l))=bF (.comp t it c e):=by
     funext ρ;simp only [bF]
    rw [e1];exact hq)
  ·cases h
theorem sT {k:Nat}:∀(e:E) {X:Cx} {x:Expr},Good X k→dI (Cx.cc X k) e→bK X.N X.env.scope e x=true→je e=true→PT X x (sR X.K fun ρ=>(bF e ρ).bind fB)
 | .not a,X,x,G,ok,h,ht=>by
  unfold bK at h
  unfold dI at ok
  unfold je at ht
  have hi:=nV h
  clear h
  obtain ⟨op,xa,p,rfl,h⟩:=hi
  simp only [ag,decide_eq_true_eq] at h
  obtain ⟨rfl,h⟩:=h
  exact HS (QJ (sT a G ok h ht)) fun ρ=>by simp only [bF]
 | .and l,X,x,G,ok,h,ht=>by
  unfold bK at h
  unfold dI at ok
  unfold je at ht
  have hi:=jS h
  clear h
  obtain ⟨op,xs,p,rfl,h⟩:=hi
  simp only [ag,decide_eq_true_eq] at h
  obtain ⟨⟨rfl,h1⟩,h2⟩:=h
  exact HS (Pd l G ok h1 h2 ht).pt fun ρ=>by simp only [bF]
 | .or l,X,x,G,ok,h,ht=>by
  unfold bK at h
  unfold dI at ok
  unfold je at ht
  have hi:=jS h
  clear h
  obtain ⟨op,xs,p,rfl,h⟩:=hi
  simp only [ag,decide_eq_true_eq] at h
  obtain ⟨⟨rfl,h1⟩,h2⟩:=h
  exact HS (T9 l G ok h1 h2 ht).pt fun ρ=>by simp only [bF]
 | .op o a b,X,x,G,ok,h,_=>by
  have hv:=sE (.op o a b) G ok h
  unfold bK at h
  unfold dI at ok
  split at h
  ·have hi:=uB h
   clear h
   obtain ⟨xa,Q1,xb,p,rfl,h⟩:=hi
   exact gO hv fun _=>rfl
  ·split at h
   ·rename_i op T7
    have hi:=uC h
    clear h
    obtain ⟨xa,Q1,xb,p,rfl,h⟩:=hi
    simp only [ag,decide_eq_true_eq] at h
    obtain ⟨⟨rfl,h1⟩,h2⟩:=h
    exact HS (QI (Ll G.room.units T7) (sE a G ok.1 h1) (sE b G ok.2 h2) (xX _ (c7 h2))) fun ρ=>by simp only [bF]
   ·cases h
 | .var i,X,x,G,ok,h,_=>by
  have hv:=sE (.var i) G ok h
  unfold bK at h
  have hi:=jR h
  clear h
  obtain ⟨n,p,rfl,h⟩:=hi
  exact gO hv fun _=>rfl
 | .call f g l,X,x,G,ok,h,_=>by
  have hv:=sE (.call f g l) G ok h
  unfold bK at h
  have hi:=cJ h
  clear h
  obtain ⟨f',p,xs,q,rfl,h⟩:=hi
  exact gO hv fun _=>rfl
 | .fld a f,X,x,G,ok,h,_=>by
  have hv:=sE (.fld a f) G ok h
  unfold bK at h
  have hi:=rZ h
  clear h
  obtain ⟨xa,f',p,rfl,h⟩:=hi
  exact gO hv fun _=>rfl
 | .ix a b,X,x,G,ok,h,_=>by
  have hv:=sE (.ix a b) G ok h
  unfold bK at h
  have hi:=ie h
  clear h
  obtain ⟨xa,xb,p,rfl,h⟩:=hi
  exact gO hv fun _=>rfl
 | .un o a,X,x,G,ok,h,_=>by
  have hv:=sE (.un o a) G ok h
  unfold bK at h
  split at h
  ·have hi:=cJ h
   clear h
   obtain ⟨f',p,l,q,rfl,h⟩:=hi
   exact gO hv fun _=>rfl
  ·split at h
   ·have hi:=nV h
    clear h
    obtain ⟨op,xa,p,rfl,h⟩:=hi
    simp only [ag,decide_eq_true_eq] at h
    obtain ⟨rfl,h⟩:=h
    exact gO hv fun _=>rfl
   ·have hi:=cJ h
    clear h
    obtain ⟨f',p,l,q,rfl,h⟩:=hi
    exact gO hv fun _=>rfl
   ·cases h
 | .bl z,X,x,G,ok,h,_=>by
  have hv:=sE (.bl z) G ok h
  unfold bK at h
  have hi:=fK h
  clear h
  obtain ⟨n,j,p,rfl,h⟩:=hi
  exact gO hv fun _=>rfl
 | .int z,X,x,G,ok,h,_=>by
  have hv:=sE (.int z) G ok h
  unfold bK at h
  have hi:=fK h
  clear h
  obtain ⟨n,j,p,rfl,h⟩:=hi
  exact gO hv fun _=>rfl
 | .gg,X,x,G,ok,h,_=>by
  have hv:=sE .gg G ok h
  unfold bK at h
  have hi:=fK h
  clear h
  obtain ⟨n,j,p,rfl,h⟩:=hi
  exact gO hv fun _=>rfl
 | .gl y d,X,x,G,ok,h,_=>by
  have hv:=sE (.gl y d) G ok h
  unfold bK at h
  have hi:=jR h
  clear h
  obtain ⟨n,p,rfl,h⟩:=hi
  exact gO hv fun _=>rfl
 | .lst l,X,x,G,ok,h,_=>by
  have hv:=sE (.lst l) G ok h
  unfold bK at h
  have hi:=l6 h
  clear h
  obtain ⟨xs,p,rfl,h⟩:=hi
  exact gO hv fun _=>rfl
 | .tup l,X,x,G,ok,h,_=>by
  have hv:=sE (.tup l) G ok h
  unfold bK at h
  have hi:=p0 h
  clear h
  obtain ⟨xs,j,p,rfl,h⟩:=hi
  exact gO hv fun _=>rfl
 | .sl a lo hi,X,x,G,ok,h,_=>by
  have hv:=sE (.sl a lo hi) G ok h
  unfold bK at h
  have hi:=ie h
  clear h
  obtain ⟨xa,xb,p,rfl,h⟩:=hi
  exact gO hv fun _=>rfl
 | .step a lo hi,X,x,G,ok,h,_=>by
  have hv:=sE (.step a lo hi) G ok h
  unfold bK at h
  have hi:=ie h
  clear h
  obtain ⟨xa,xb,p,rfl,h⟩:=hi
  exact gO hv fun _=>rfl
 | .cnt a b,X,x,G,ok,h,_=>by
  have hv:=sE (.cnt a b) G ok h
  unfold bK at h
  have hi:=r0 h
  clear h
  obtain ⟨o,m,p,l,q,rfl,hl,h⟩:=hi
  exact gO hv fun _=>rfl
 | .comp t it c e,X,x,G,ok,h,_=>by
  have hv:=sE (.comp t it c e) G ok h
  unfold bK at h
  have hi:=ou h
  clear h
  obtain ⟨xe,xt,xi,xl,scope,p,rfl,h⟩:=hi
  exact gO hv fun _=>rfl
 | .ite _ _ _,X,x,G,ok,h,ht=>by unfold je at ht;cases ht
theorem R4 {k:Nat}:∀(l:Es) {X:Cx} {xs:List Expr},Good X k→cU (Cx.cc X k) l→eB X.N X.env.scope l xs=true→PA X xs (HH X.K (jO l))
 | .nil,X,[],G,ok,h=>Pb pY fun ρ=>by simp only [jO]
 | .cons a r,X,x::xs,G,ok,h=>by
  unfold eB at h
  unfold cU at ok
  rw [ag] at h
  exact Pb (jP (sE a G ok.1 h.1) (R4 r G ok.2 h.2) (c7 h.1)) fun ρ=>by simp only [jO]
 | .nil,X,_::_,G,ok,h=>by unfold eB at h;cases h
 | .cons _ _,X,[],G,ok,h=>by unfold eB at h;cases h
theorem T8 {k:Nat}:∀(l:Es) {X:Cx} {xs:List Expr} {pos:Pos},Good X k→cU (Cx.cc X k) l→0 < l.len→eB X.N X.env.scope l xs=true→PE X (.BoolOp .And xs pos) (tM X.K (rG l))
 | .nil,X,xs,pos,G,ok,hl,h=>by simp [Es.len] at hl
 | .cons a .nil,X,[],pos,G,ok,hl,h=>by unfold eB at h;cases h
 | .cons a .nil,X,x::xs,pos,G,ok,hl,h=>by
  unfold eB at h
  unfold cU at ok
  rw [ag] at h
  have h2:=(fO h.2).2
  simp [Es.len] at h2
  subst h2
  exact gk (Kl (sE a G ok.1 h.1)) fun ρ=>by simp only [rG]
 | .cons a (.cons b r),X,[],pos,G,ok,hl,h=>by unfold eB at h;cases h
 | .cons a (.cons b r),X,x::xs,pos,G,ok,hl,h=>by
  unfold eB at h
  unfold cU at ok
  rw [ag] at h
  have h2:=(fO h.2).2
  cases xs with
  | nil=>simp [Es.len] at h2
  | cons y ys=>exact gk (Tt (sE a G ok.1 h.1) (T8 (.cons b r) G ok.2 (by simp [Es.len]) h.2)) fun ρ=>by simp only [rG]<;>rfl
theorem Yw {k:Nat}:∀(l:Es) {X:Cx} {xs:List Expr} {pos:Pos},Good X k→cU (Cx.cc X k) l→0 < l.len→eB X.N X.env.scope l xs=true→PE X (.BoolOp .Or xs pos) (tM X.K (zX l))
 | .nil,X,xs,pos,G,ok,hl,h=>by simp [Es.len] at hl
 | .cons a .nil,X,[],pos,G,ok,hl,h=>by unfold eB at h;cases h
 | .cons a .nil,X,x::xs,pos,G,ok,hl,h=>by
  unfold eB at h
  unfold cU at ok
  rw [ag] at h
  have h2:=(fO h.2).2
  simp [Es.len] at h2
  subst h2
  exact gk (Kl (sE a G ok.1 h.1)) fun ρ=>by simp only [zX]
 | .cons a (.cons b r),X,[],pos,G,ok,hl,h=>by unfold eB at h;cases h
 | .cons a (.cons b r),X,x::xs,pos,G,ok,hl,h=>by
  unfold eB at h
  unfold cU at ok
  rw [ag] at h
  have h2:=(fO h.2).2
  cases xs with
  | nil=>simp [Es.len] at h2
  | cons y ys=>exact gk (W8 (sE a G ok.1 h.1) (Yw (.cons b r) G ok.2 (by simp [Es.len]) h.2)) fun ρ=>by simp only [zX]<;>rfl
theorem Pd {k:Nat}:∀(l:Es) {X:Cx} {xs:List Expr} {pos:Pos},Good X k→cU (Cx.cc X k) l→0 < l.len→eB X.N X.env.scope l xs=true→sW l=true→PW X (.BoolOp .And xs pos) (sR X.K fun ρ=>(rG l ρ).bind fB)
 | .nil,X,xs,pos,G,ok,hl,h,ht=>by simp [Es.len] at hl
 | .cons a .nil,X,[],pos,G,ok,hl,h,ht=>by unfold eB at h;cases h
 | .cons a .nil,X,x::xs,pos,G,ok,hl,h,ht=>by
  unfold eB at h
  unfold cU at ok
  unfold sW at ht
  rw [ag] at h ht
  have h2:=(fO h.2).2
  simp [Es.len] at h2
  subst h2
  exact HU (Ni (sT a G ok.1 h.1 ht.1)) fun ρ=>by simp only [rG]
 | .cons a (.cons b r),X,[],pos,G,ok,hl,h,ht=>by unfold eB at h;cases h
 | .cons a (.cons b r),X,x::xs,pos,G,ok,hl,h,ht=>by
  unfold eB at h
  unfold cU at ok
  unfold sW at ht
  rw [ag] at h ht
  have h2:=(fO h.2).2
  cases xs with
  | nil=>simp [Es.len] at h2
  | cons y ys=>exact HU (QK (sT a G ok.1 h.1 ht.1) (Pd (.cons b r) G ok.2 (by simp [Es.len]) h.2 ht.2)) fun ρ=>by simp only [rG]<;>rfl
theorem T9 {k:Nat}:∀(l:Es) {X:Cx} {xs:List Expr} {pos:Pos},Good X k→cU (Cx.cc X k) l→0 < l.len→eB X.N X.env.scope l xs=true→sW l=true→PW X (.BoolOp .Or xs pos) (sR X.K fun ρ=>(zX l ρ).bind fB)
 | .nil,X,xs,pos,G,ok,hl,h,ht=>by simp [Es.len] at hl
 | .cons a .nil,X,[],pos,G,ok,hl,h,ht=>by unfold eB at h;cases h
 | .cons a .nil,X,x::xs,pos,G,ok,hl,h,ht=>by
  unfold eB at h
  unfold cU at ok
  unfold sW at ht
  rw [ag] at h ht
  have h2:=(fO h.2).2
  simp [Es.len] at h2
  subst h2
  exact HU (PU (sT a G ok.1 h.1 ht.1)) fun ρ=>by simp only [zX]
 | .cons a (.cons b r),X,[],pos,G,ok,hl,h,ht=>by unfold eB at h;cases h
 | .cons a (.cons b r),X,x::xs,pos,G,ok,hl,h,ht=>by
  unfold eB at h
  unfold cU at ok
  unfold sW at ht
  rw [ag] at h ht
  have h2:=(fO h.2).2
  cases xs with
  | nil=>simp [Es.len] at h2
  | cons y ys=>exact HU (Tu (sT a G ok.1 h.1 ht.1) (T9 (.cons b r) G ok.2 (by simp [Es.len]) h.2 ht.2)) fun ρ=>by simp only [zX]<;>rfl
theorem sO {k:Nat}:∀(o:Oe) {X:Cx} {x:Option Expr},Good X k→iH (Cx.cc X k) o→Jv X.N X.env.scope o x=true→PO X x (QG X.K (J7 o))
 | .no,X,none,G,ok,h=>Pc Xj fun ρ=>by simp only [J7]
 | .yes a,X,some x,G,ok,h=>by
  unfold Jv at h
  unfold iH at ok
  exact Pc (TX (sE a G ok h)) fun ρ=>by simp only [J7]
 | .no,X,some _,G,ok,h=>by unfold Jv at h;cases h
 | .yes _,X,none,G,ok,h=>by unfold Jv at h;cases h
theorem sC {k:Nat}:∀(o:Oe) {X:Cx} {xs:List Expr},Good X k→iH (Cx.cc X k) o→Jw X.N X.env.scope o xs=true→NG X xs (sR X.K (Bj o))
 | .no,X,[],G,ok,h=>NV NH fun σ H Q ⟨F,ρ,b,s,l,e,q⟩=>by
  simp only [Bj] at e
  cases e
  exact q F H (.refl s)
 | .yes a,X,[x],G,ok,h=>by
  unfold Jw at h
  unfold iH at ok
  rw [ag] at h
  have e1:Bj (.yes a)=fun ρ=>(bF a ρ).bind fB:=by funext ρ;simp only [Bj]
  rw [e1]
  exact NI (sT a G ok h.2 h.1)
 | .no,X,_::_,G,ok,h=>by unfold Jw at h;cases h
 | .yes _,X,[],G,ok,h=>by unfold Jw at h;cases h
 | .yes _,X,_::_::_,G,ok,h=>by unfold Jw at h;cases h
theorem sI {k:Nat}:∀(it:It) {X:Cx} {tg x:Expr},Good X k→iC (Cx.cc X k) it→rg X.N X.env.scope it x (isTup tg)=true→PI X tg x (HI X.K (pC it))
 | .lst a,X,tg,x,G,ok,h=>by
  unfold rg at h
  unfold iC at ok
  exact Bt (QS (sE a G ok h)) fun ρ=>by simp only [pC]
 | .pB a,X,tg,x,G,ok,h=>by
  unfold rg at h
  unfold iC at ok
  have hi:=cJ h
  clear h
  obtain ⟨f,p,l,q,rfl,h⟩:=hi
  simp only [ag,decide_eq_true_eq] at h
  obtain ⟨⟨rfl,h1⟩,h2⟩:=h
  have hi:=oy h2
  clear h2
  obtain ⟨xa,rfl,h2⟩:=hi
  exact Bt (TY (fX h1) G.blt.range (sE a G ok h2) (c7 h2)) fun ρ=>by simp only [pC]
 | .D_ a b,X,tg,x,G,ok,h=>by
  unfold rg at h
  unfold iC at ok
  have hi:=cJ h
  clear h
  obtain ⟨f,p,l,q,rfl,h⟩:=hi
  simp only [ag,decide_eq_true_eq] at h
  obtain ⟨⟨rfl,h1⟩,h2⟩:=h
  have hi:=HW (f:=fun xa xb=>bK X.N X.env.scope a xa&&bK X.N X.env.scope b xb) h2
  clear h2
  obtain ⟨xa,xb,rfl,h2⟩:=hi
  rw [ag] at h2
  exact Bt (QT (fX h1) G.blt.range (sE a G ok.1 h2.1) (sE b G ok.2 h2.2) (c7 h2.1) (c7 h2.2)) fun ρ=>by simp only [pC]
 | .enum a,X,tg,x,G,ok,h=>by
  unfold rg at h
  unfold iC at ok
  have hi:=cJ h
  clear h
  obtain ⟨f,p,l,q,rfl,h⟩:=hi
  simp only [ag,decide_eq_true_eq] at h
  obtain ⟨⟨⟨rfl,h1⟩,h0⟩,h2⟩:=h
  have hi:=oy h2
  clear h2
  obtain ⟨xa,rfl,h2⟩:=hi
  obtain ⟨_,_,_,rfl⟩:=Bu h0
  exact Bt (QU (fX h1) G.blt.enumerate (sE a G ok h2) (c7 h2)) fun ρ=>by simp only [pC]
 | .zip a b,X,tg,x,G,ok,h=>by
  unfold rg at h
  unfold iC at ok
  have hi:=cJ h
  clear h
  obtain ⟨f,p,l,q,rfl,h⟩:=hi
  simp only [ag,decide_eq_true_eq] at h
  obtain ⟨⟨⟨rfl,h1⟩,h0⟩,h2⟩:=h
  have hi:=HW (f:=fun xa xb=>bK X.N X.env.scope a xa&&bK X.N X.env.scope b xb) h2
  clear h2
  obtain ⟨xa,xb,rfl,h2⟩:=hi
  rw [ag] at h2
  obtain ⟨_,_,_,rfl⟩:=Bu h0
  exact Bt (TZ (fX h1) G.blt.zip (sE a G ok.1 h2.1) (sE b G ok.2 h2.2) (c7 h2.1) (c7 h2.2)) fun ρ=>by simp only [pC]
 | .rev a,X,tg,x,G,ok,h=>by
  unfold rg at h
  unfold iC at ok
  have hi:=cJ h
  clear h
  obtain ⟨f,p,l,q,rfl,h⟩:=hi
  simp only [ag,decide_eq_true_eq] at h
  obtain ⟨⟨rfl,h1⟩,h2⟩:=h
  have hi:=oy h2
  clear h2
  obtain ⟨xa,rfl,h2⟩:=hi
  exact Bt (T1 (fX h1) G.blt.reversed (sE a G ok h2) (c7 h2)) fun ρ=>by simp only [pC]
end
end Mi
namespace Mi
open PySem PySem.Spec PyProof.Rows L2
theorem eE:∀(s:List Sl) (i j:Nat) (y:Sl),gh (sset s i y) j=if i=j∧i < s.length then y else gh s j
 | [],i,j,y=>by simp [sset,gh]
 | x::r,0,0,y=>by simp [sset,gh]
 | x::r,0,j+1,y=>by simp [sset,gh]
 | x::r,i+1,0,y=>by simp [sset,gh]
 | x::r,i+1,j+1,y=>by simp [sset,gh,eE r i j y]
theorem nW:∀(s:List Sl) (i:Nat) (y:Sl),(sset s i y).length=s.length
 | [],_,_=>rfl
 | _::_,0,_=>rfl
 | _::r,i+1,y=>by simp [sset,nW r i y]
theorem iU:∀{s:List Sl} {i:Nat},gh s i≠.no→i < s.length
 | [],_,h=>absurd rfl h
 | _::_,0,_=>by simp
 | _::r,i+1,h=>by
  have:=iU (s:=r) (i:=i) h
  simp;omega
theorem uD:∀(s:List Sl) (i:Nat),sset s i (gh s i)=s
 | [],_=>rfl
 | _::_,0=>rfl
 | _::r,i+1=>by simp [sset,gh,uD r i]
theorem sX (f:Sl→Option D) (hf:f .no=none):∀(s:List Sl) (i:Nat),fv (s.map f) i=f (gh s i)
 | [],_=>by simp [fv,gh,hf]
 | _::_,0=>rfl
 | _::r,i+1=>by simp [fv,gh,sX f hf r i]
structure mH (K:aa) (F0 B F H:Hp) (σ:L2.St) (s:List Sl):Prop where
 ext:Ext F0 B F H
 len:σ.length=s.length
 fz:∀i d,gh s i=.fz d→∃v,σ[i]?=some (some v)∧Den K F d v
 ow:∀i l,gh s i=.ow l→∃a vs,σ[i]?=some (some (.ref a))∧B a=none∧F a=none∧H a=some (.lst vs)∧l.length≤sizeLine∧cG K F l vs
 ne:∀i j l m a,i≠j→gh s i=.ow l→gh s j=.ow m→σ[i]?=some (some (.ref a))→σ[j]?=some (some (.ref a))→False
section
variable {K:aa} {F0 B F H F' H':Hp} {σ:L2.St} {s:List Sl}
theorem mH.slots (S:mH K F0 B F H σ s):Slots K F σ (view s):=by
 refine ⟨by unfold view;rw [af];exact S.len,fun i d e=>?_⟩
 unfold view at e
 rw [sX K5 rfl] at e
 cases q:gh s i with
 | no=>rw [q] at e;cases e
 | ow l=>rw [q] at e;cases e
 | fz x =>
  rw [q] at e
  cases e
  exact S.fz i _ q
theorem mH.expr (S:mH K F0 B F H σ s) (e:Ext F H F' H'):mH K F0 B F' H' σ s where
 ext:=⟨S.ext.hh.trans e.hh,S.ext.ff.trans e.ff,e.fh,fun b h1 h2=>e.nw b (S.ext.nw b h1 h2) (Cd S.ext.hh h2)⟩
 len:=S.len
 fz:=fun i d q=>by
  obtain ⟨v,h1,h2⟩:=S.fz i d q
  exact ⟨v,h1,cT e.ff _ _ h2⟩
 ow:=fun i l q=>by
  obtain ⟨a,vs,h1,h2,h3,h4,h5,h6⟩:=S.ow i l q
  exact ⟨a,vs,h1,h2,e.nw a h3 (by rw [h4];exact fun z=>nomatch z),e.hh _ _ h4,h5,cD e.ff _ _ h6⟩
 ne:=S.ne
theorem mH.keep (S:mH K F0 B F H σ s) (e:bT H H'):mH K F0 B F H' σ s where
 ext:=⟨S.ext.hh.trans e,S.ext.ff,S.ext.fh.trans e,S.ext.nw⟩
 len:=S.len
 fz:=S.fz
 ow:=fun i l q=>by
  obtain ⟨a,vs,h1,h2,h3,h4,h5,h6⟩:=S.ow i l q
  exact ⟨a,vs,h1,h2,h3,e _ _ h4,h5,h6⟩
 ne:=S.ne
theorem mH.N3 (S:mH K F0 B F H σ s) (i:Nat):∃F',bT F F'∧mH K F0 B F' H σ (sset s i (Bk (gh s i))):=by
 cases q:gh s i with
 | no=>exact ⟨F,same_refl F,by show mH K F0 B F H σ (sset s i .no);rw [←q,uD];exact S⟩
 | fz d=>exact ⟨F,same_refl F,by show mH K F0 B F H σ (sset s i (.fz d));rw [←q,uD];exact S⟩
 | ow l =>
  obtain ⟨a,vs,h1,h2,h3,h4,h5,h6⟩:=S.ow i l q
  have hi:i < s.length:=iU (by rw [q];exact fun z=>nomatch z)
  have sm:bT F (upd F a (.lst vs)):=d8 h3 _
  refine ⟨upd F a (.lst vs),sm,⟨S.ext.adopt h2 h4 h3,by rw [nW];exact S.len,fun j d e=>?_,fun j m e=>?_,fun j k m n b N4 e1 e2=>?_⟩⟩
  ·rw [eE] at e
   by_cases hj:i=j∧i < s.length
   ·rw [if_pos hj] at e
    cases e
    obtain ⟨rfl,_⟩:=hj
    exact ⟨.ref a,h1,f9 h5 aK (cD sm _ _ h6)⟩
   ·rw [if_neg hj] at e
    obtain ⟨v,g1,g2⟩:=S.fz j d e
    exact ⟨v,g1,cT sm _ _ g2⟩
  ·rw [eE] at e
   by_cases hj:i=j∧i < s.length
   ·rw [if_pos hj] at e;cases e
   ·rw [if_neg hj] at e
    have O7:i≠j:=fun z=>hj ⟨z,hi⟩
    obtain ⟨b,us,g1,g2,g3,g4,g5,g6⟩:=S.ow j m e
    have Ej:b≠a:=fun z=>S.ne i j l m a O7 q e h1 (by rw [←z];exact g1)
    exact ⟨b,us,g1,g2,by rw [aM Ej];exact g3,g4,g5,cD sm _ _ g6⟩
  ·rw [eE] at e1 e2
   by_cases hj:i=j∧i < s.length
   ·rw [if_pos hj] at e1;cases e1
   ·rw [if_neg hj] at e1
    by_cases hk:i=k∧i < s.length
    ·rw [if_pos hk] at e2;cases e2
    ·rw [if_neg hk] at e2
     exact S.ne j k m n b N4 e1 e2
theorem mH.freeze:∀(fz:List Nat) {F:Hp} {s:List Sl},mH K F0 B F H σ s→∃F',bT F F'∧mH K F0 B F' H σ (Mi.freeze fz s)
 | [],F,s,S=>⟨F,same_refl F,S⟩
 | i::r,F,s,S=>by
  obtain ⟨F1,s1,S1⟩:=S.N3 i
  obtain ⟨F2,s2,S2⟩:=mH.freeze r S1
  exact ⟨F2,s1.trans s2,S2⟩
theorem vw:∀(fz:List Nat) (s:List Sl) (i:Nat),i < s.length→gh (Mi.freeze fz s) i=if i∈fz then Bk (gh s i) else gh s i
 | [],s,i,_=>by simp [Mi.freeze]
 | j::r,s,i,hi=>by
  unfold Mi.freeze
  rw [vw r _ i (by rw [nW];exact hi),eE]
  by_cases hj:j=i
  ·subst hj
   have:∀x,Bk (Bk x)=Bk x:=fun x=>by cases x<;>rfl
   simp [hi,this]
  ·have R3:¬i=j:=fun z=>hj z.symm
   simp [hj,R3]
theorem mH.all (S:mH K F0 B F H σ s):∃F',bT F F'∧bT F' H∧Slots K F' σ (bx s):=by
 obtain ⟨F1,s1,S1⟩:=mH.freeze (aq s.length) S
 refine ⟨F1,s1,S1.ext.fh,by unfold bx;rw [af];exact S.len,fun i d e=>?_⟩
 refine S1.slots.den i d ?_
 unfold bx at e
 unfold view
 rw [sX K6 rfl] at e
 rw [sX K5 rfl]
 have hi:i < s.length:=iU (fun z=>by rw [z] at e;cases e)
 rw [vw _ _ _ hi,if_pos (aS.mpr hi)]
 cases q:gh s i with
 | no=>rw [q] at e;cases e
 | fz x=>rw [q] at e;exact e
 | ow l=>rw [q] at e;exact e
theorem mH.set (S:mH K F0 B F H σ s) {i:Nat} {d:D} {v:V} (hd:Den K F d v):mH K F0 B F H (σ.set i (some v)) (sset s i (.fz d)) where
 ext:=S.ext
 len:=by rw [cO,nW];exact S.len
 fz:=fun j x e=>by
  rw [eE] at e
  by_cases hj:i=j∧i < s.length
  ·rw [if_pos hj] at e
   cases e
   obtain ⟨rfl,hl⟩:=hj
   exact ⟨v,by rw [b6 (by rw [S.len];exact hl)],hd⟩
  ·rw [if_neg hj] at e
   have hl:j < s.length:=iU (by rw [e];exact fun z=>nomatch z)
   have kI:i≠j:=fun z=>hj ⟨z,by omega⟩
   rw [bg kI]
   exact S.fz j x e
 ow:=fun j x e=>by
  rw [eE] at e
  by_cases hj:i=j∧i < s.length
  ·rw [if_pos hj] at e;cases e
  ·rw [if_neg hj] at e
   have hl:j < s.length:=iU (by rw [e];exact fun z=>nomatch z)
   have kI:i≠j:=fun z=>hj ⟨z,by omega⟩
   rw [bg kI]
   exact S.ow j x e
 ne:=fun j k m n b N4 e1 e2=>by
  rw [eE] at e1 e2
  by_cases hj:i=j∧i < s.length
  ·rw [if_pos hj] at e1;cases e1
  ·rw [if_neg hj] at e1
   by_cases hk:i=k∧i < s.length
   ·rw [if_pos hk] at e2;cases e2
   ·rw [if_neg hk] at e2
    have h1:j < s.length:=iU (by rw [e1];exact fun z=>nomatch z)
    have h2:k < s.length:=iU (by rw [e2];exact fun z=>nomatch z)
    rw [bg (fun z=>hj ⟨z,by omega⟩),bg (fun z=>hk ⟨z,by omega⟩)]
    exact S.ne j k m n b N4 e1 e2
theorem mH.own (S:mH K F0 B F H σ s) {i:Nat} {l:List D} {vs:List V} {p:Addr} (hB:B p=none) (hF:F p=none) (hn:∀j m,gh s j=.ow m→σ[j]?≠some (some (.ref p))) (hH:H p=some (.lst vs)) (hz:l.length≤sizeLine) (hd:cG K F l vs) :
  mH K F0 B F H (σ.set i (some (.ref p))) (sset s i (.ow l)) where
 ext:=S.ext
 len:=by rw [cO,nW];exact S.len
 fz:=fun j x e=>by
  rw [eE] at e
  by_cases hj:i=j∧i < s.length
  ·rw [if_pos hj] at e;cases e
  ·rw [if_neg hj] at e
   have hl:j < s.length:=iU (by rw [e];exact fun z=>nomatch z)
   have kI:i≠j:=fun z=>hj ⟨z,by omega⟩
   rw [bg kI]
   exact S.fz j x e
 ow:=fun j x e=>by
  rw [eE] at e
  by_cases hj:i=j∧i < s.length
  ·rw [if_pos hj] at e
   cases e
   obtain ⟨rfl,hl⟩:=hj
   exact ⟨p,vs,by rw [b6 (by rw [S.len];exact hl)],hB,hF,hH,hz,hd⟩
  ·rw [if_neg hj] at e
   have hl:j < s.length:=iU (by rw [e];exact fun z=>nomatch z)
   have kI:i≠j:=fun z=>hj ⟨z,by omega⟩
   rw [bg kI]
   exact S.ow j x e
 ne:=fun j k m n b N4 e1 e2=>by
  rw [eE] at e1 e2
  have h1:j < s.length:=by
   by_cases hj:i=j∧i < s.length
   ·omega
   ·rw [if_neg hj] at e1;exact iU (by rw [e1];exact fun z=>nomatch z)
  have h2:k < s.length:=by
   by_cases hj:i=k∧i < s.length
   ·omega
   ·rw [if_neg hj] at e2;exact iU (by rw [e2];exact fun z=>nomatch z)
  by_cases hj:i=j
  ·subst hj
   rw [if_neg (fun z=>N4 z.1)] at e2
   rw [b6 (by rw [S.len];exact h1),bg N4]
   intro q1 q2
   cases q1
   exact hn k n e2 q2
  ·by_cases hk:i=k
   ·subst hk
    rw [if_neg (fun z=>hj z.1)] at e1
    rw [b6 (by rw [S.len];exact h2),bg hj]
    intro q1 q2
    cases q2
    exact hn j m e1 q1
   ·rw [if_neg (fun z=>hj z.1)] at e1
    rw [if_neg (fun z=>hk z.1)] at e2
    rw [bg hj,bg hk]
    exact S.ne j k m n b N4 e1 e2
theorem mH.grow (S:mH K F0 B F H σ s) {i:Nat} {l m:List D} {vs us:List V} {a:Addr} (e:gh s i=.ow l) (ha:σ[i]?=some (some (.ref a))) (hH:H a=some (.lst vs)) (hz:l.length+m.length≤sizeLine) (hd:cG K F m us) :
  mH K F0 B F (upd H a (.lst (vs++us))) σ (sset s i (.ow (l++m))):=by
 obtain ⟨a',vs',h1,h2,h3,h4,h5,h6⟩:=S.ow i l e
 rw [ha] at h1
 cases h1
 rw [hH] at h4
 cases h4
 have hi:i < s.length:=iU (by rw [e];exact fun z=>nomatch z)
 refine ⟨S.ext.write h2 h3,by rw [nW];exact S.len,fun j x q=>?_,fun j x q=>?_,fun j k x y b N4 q1 q2=>?_⟩
 ·rw [eE] at q
  by_cases hj:i=j∧i < s.length
  ·rw [if_pos hj] at q;cases q
  ·rw [if_neg hj] at q;exact S.fz j x q
 ·rw [eE] at q
  by_cases hj:i=j∧i < s.length
  ·rw [if_pos hj] at q
   cases q
   obtain ⟨rfl,_⟩:=hj
   exact ⟨a,vs++us,ha,h2,h3,aK,by rw [ax];exact hz,jl h6 hd⟩
  ·rw [if_neg hj] at q
   have O7:i≠j:=fun z=>hj ⟨z,hi⟩
   obtain ⟨b,ws,g1,g2,g3,g4,g5,g6⟩:=S.ow j x q
   have Ej:b≠a:=fun z=>S.ne i j l x a O7 e q ha (by rw [←z];exact g1)
   exact ⟨b,ws,g1,g2,g3,by rw [aM Ej];exact g4,g5,g6⟩
 ·have Yx:∀j x,gh (sset s i (.ow (l++m))) j=.ow x→∃x',gh s j=.ow x':=fun j x q=>by
   rw [eE] at q
   by_cases hj:i=j∧i < s.length
   ·obtain ⟨rfl,_⟩:=hj;exact ⟨l,e⟩
   ·rw [if_neg hj] at q;exact ⟨x,q⟩
  obtain ⟨x',g1⟩:=Yx j x q1
  obtain ⟨y',g2⟩:=Yx k y q2
  exact S.ne j k x' y' b N4 g1 g2
theorem mH.fresh (S:mH K F0 B F H σ s) {p:Addr} (h:H p=none):B p=none∧F p=none∧∀j m,gh s j=.ow m→σ[j]?≠some (some (.ref p)) :=
 ⟨same_none S.ext.hh h,same_none S.ext.fh h,fun j m q z=>by
  obtain ⟨a,vs,h1,_,_,h4,_⟩:=S.ow j m q
  rw [z] at h1
  cases h1
  rw [h] at h4
  cases h4⟩
end
def N5 (K:aa) (F0 B F:Hp) (D:Ends):Out→Prop
 | .nx s=>∀F' H' fb,bT F F'→mH K F0 B F' H' fb s→D.nx fb H'
 | .bk s=>∀F' H' fb,bT F F'→mH K F0 B F' H' fb s→D.bk fb H'
 | .ct s=>∀F' H' fb,bT F F'→mH K F0 B F' H' fb s→D.ct fb H'
 | .rt d=>∀v F' H',bT F F'→Ext F0 B F' H'→Den K F' d v→D.rt v H'
theorem N5.mono {K:aa} {F0 B F G:Hp} {D:Ends} {o:Out} (h:N5 K F0 B F D o) (s:bT F G):N5 K F0 B G D o:=by
 cases o with
 | nx _=>exact fun F' H' fb q=>h F' H' fb (s.trans q)
 | bk _=>exact fun F' H' fb q=>h F' H' fb (s.trans q)
 | ct _=>exact fun F' H' fb q=>h F' H' fb (s.trans q)
 | rt _=>exact fun v F' H' q=>h v F' H' (s.trans q)
def w9 (K:aa) (ex:List Sl→Option Out):TS:=fun D σ H=>∃F0 B F s o,mH K F0 B F H σ s∧ex s=some o∧N5 K F0 B F D o
theorem jT {X:Cx} {st:Stmt} {t t':TS} (h:PS X st t) (k:∀D σ H,t' D σ H→t D σ H):PS X st t':=fun pins s σ H D I q=>h pins s σ H D I (k D σ H q)
theorem HX {X:Cx} {st:List Stmt} {t t':TS} (h:vO X st t) (k:∀D σ H,t' D σ H→t D σ H):vO X st t':=fun pins s σ H D I q=>h pins s σ H D I (k D σ H q)
section
variable {X:Cx} {st:Stmt} {rest:List Stmt} {e:Expr} {pos pos':Pos} {x:Str} {i:Nat}
theorem T_:vO X [] (w9 X.K fun s=>some (.nx s)):=HX c_ fun D σ H ⟨F0,B,F,s,o,S,e,q⟩=>by
 cases e
 exact q F H σ (same_refl F) S
theorem Q3 {f g:List Sl→Option Out} (h1:PS X st (w9 X.K f)) (h2:vO X rest (w9 X.K g)) :
  vO X (st::rest) (w9 X.K fun s=>(f s).bind fun o=>match o with|.nx s1=>g s1|.rt d=>some (.rt d)|.bk s1=>some (.bk s1)|.ct s1=>some (.ct s1)) :=
 HX (aE h1 h2) fun D σ H ⟨F0,B,F,s,o,S,e,q⟩=>by
  obtain ⟨o1,e1,e2⟩:=ab.mp e
  refine ⟨F0,B,F,s,o1,S,e1,?_⟩
  cases o1 with
  | nx s1=>exact fun F' H' fb sm S'=>⟨F0,B,F',s1,o,S',e2,q.mono sm⟩
  | bk s1=>cases e2;exact q
  | ct s1=>cases e2;exact q
  | rt d=>cases e2;exact q
theorem Pe {K:aa} {F0 B F H:Hp} {σ:L2.St} {s:List Sl} {ev:eA→Option D} {fz:List Nat} {d:D} {Q:VK} (S:mH K F0 B F H σ s) (e:ev (view (freeze fz s))=some d)
  (q:∀v F' H',bT F F'→mH K F0 B F' H' σ (after d fz s)→mH K F0 B F' H' σ (after d fz s)→Den K F' d v→Q v H'):tM K ev σ H Q:=by
 obtain ⟨F1,s1,S1⟩:=S.freeze fz
 refine ⟨F1,view (freeze fz s),d,S1.ext.fh,S1.slots,e,fun v F2 H2 ex dn=>?_⟩
 unfold after at q
 cases hs:Th d with
 | true =>
  rw [hs] at q
  have S2:=S.keep ex.hh
  exact q v F H2 (same_refl F) S2 S2 (HG dn hs)
 | false =>
  rw [hs] at q
  have S2:=S1.expr ex
  exact q v F2 H2 (s1.trans ex.ff) S2 S2 dn
theorem Ua {ev:eA→Option D} {fz:List Nat} (h:PS X (.Assign [.Name x pos'] e pos) (vP (tM X.K ev) (kU i))):PS X (.Assign [.Name x pos'] e pos) (w9 X.K fun s=>(ev (view (freeze fz s))).bind fun d=>some (.nx (sset (after d fz s) i (.fz d)))) :=
 jT h fun D σ H ⟨F0,B,F,s,o,S,e,q⟩=>by
  obtain ⟨d,e1,e2⟩:=ab.mp e
  cases e2
  exact Pe S e1 fun v F' H' sm S' _ dn=>q F' H' _ sm (S'.set dn)
theorem Ub {ev:eA→Option D} {fz:List Nat} (h:PE X e (tM X.K ev)):PS X (.Return (some e) pos) (w9 X.K fun s=>(ev (view (freeze fz s))).bind fun d=>some (.rt d)) :=
 jT (b5 h) fun D σ H ⟨F0,B,F,s,o,S,e,q⟩=>by
  obtain ⟨d,e1,e2⟩:=ab.mp e
  cases e2
  exact Pe S e1 fun v F' H' sm S' _ dn=>q v F' H' sm S'.ext dn
theorem Uc {a b:List Stmt} {c:Expr} {ec:eA→Option D} {f g:List Sl→Option Out} (hc:PT X c (sR X.K fun ρ=>(ec ρ).bind fB)) (ha:vO X a (w9 X.K f)) (hb:vO X b (w9 X.K g)) :
  PS X (.If c a b pos) (w9 X.K fun s=>(ec (bx s)).bind fun d=>(fB d).bind fun k=>match k with|true=>f s|false=>g s) :=
 jT (fw hc ha hb) fun D σ H ⟨F0,B,F,s,o,S,e,q⟩=>by
  obtain ⟨d,e1,e2⟩:=ab.mp e
  obtain ⟨k,e3,e4⟩:=ab.mp e2
  obtain ⟨F1,s1,s2,sl⟩:=S.all
  refine ⟨F1,bx s,k,s2,sl,Bo e1 e3,fun F' H' ex=>?_⟩
  have S2:=S.keep ex.hh
  cases k with
  | true=>exact ⟨F0,B,F,s,o,S2,e4,q⟩
  | false=>exact ⟨F0,B,F,s,o,S2,e4,q⟩
theorem Ud {ev:eA→Option D} {o:O2} {op:Operator} {ti:Sq} (hN:X.N.Nodup) (hi:X.N[i]?=some x) (hx:Loc X.env.scope x) (hf:X.fn x=true∨X.env.scope.names.lookup x=some .local) (h:PE X e (tM X.K ev)) (hp:RQ X op ti)
  (ho:∀(a:Option D) (d r:D),xS o a d=some r→∃m n z:Int,a=some (.int m)∧d=.int n∧r=.int z∧∀H Q,Q (.int z) H→ti (.int m) (.int n) H Q) :
  PS X (.AugAssign (.Name x pos') op e pos) (w9 X.K fun s=>(ev (bx s)).bind fun d=>(xS o (fv (view s) i) d).bind fun r=>some (.nx (sset s i (.fz r)))) :=
 jT (Kq hN hi hx h hp hf) fun D σ H ⟨F0,B,F,s,out,S,e,q⟩=>by
  obtain ⟨d,e1,e2⟩:=ab.mp e
  obtain ⟨r,e3,e4⟩:=ab.mp e2
  cases e4
  obtain ⟨m,n,z,h1,rfl,rfl,h2⟩:=ho _ _ _ e3
  obtain ⟨v,g1,g2⟩:=S.slots.den i _ h1
  obtain rfl:=bD g2
  obtain ⟨F1,s1,s2,sl⟩:=S.all
  refine ⟨_,g1,F1,bx s,_,s2,sl,e1,fun v F' H' ex dn=>?_⟩
  obtain rfl:=bD dn
  exact h2 H' _ (q F H' _ (same_refl F) ((S.keep ex.hh).set (bO _)))
theorem Ue {K:aa} {F0 B F H:Hp} {σ:L2.St} {s s':List Sl} {t:Tg} {d:D} {v:V} {Q:L2.St→Hp→Prop} (ht:∀l,t=.tp l→l.length=2) (S:mH K F0 B F H σ s) (dn:Den K F d v) (e:Gh t d s=some s')
  (q:∀fb,mH K F0 B F H fb s'→Q fb H):Cf K t v σ H Q:=by
 cases t with
 | nm i =>
  simp [Gh] at e
  subst e
  exact q _ (S.set dn)
 | tp is =>
  have h2:=ht is rfl
  match is,h2 with
  | [i,j],_ =>
   cases d<;>simp only [Gh,reduceCtorEq] at e
   rename_i ds
   obtain ⟨a,vs,rfl,hs,dl⟩:=qE dn
   match ds,e with
   | [x,y],e =>
    simp [Bl] at e
    subst e
    obtain ⟨v1,r,rfl,d1,d2⟩:=bJ dl
    obtain ⟨v2,r,rfl,d3,d4⟩:=bJ d2
    obtain rfl:=bL d4
    exact ⟨a,[v1,v2],rfl,l5 S.ext.fh hs,rfl,v1,[v2],rfl,v2,[],rfl,rfl,q _ ((S.set d1).set d3)⟩
   | [],e=>simp [Bl] at e
   | [_],e=>simp [Bl] at e
   | _::_::_::_,e=>simp [Bl] at e
theorem Ug {tg it:Expr} {body:List Stmt} {t:Tg} {fz:List Nat} {ei:eA→Option (List D)} {f:List Sl→Option Out} (hp:PassesOwn (model X.prog X.w) X.A X.env X.xe) (hc:X.calm=true) (ht:∀l,t=.tp l→l.length=2) (hi:PI X tg it (HI X.K ei)) (hg:PG X tg (Cf X.K t)) (hb:vO X body (w9 X.K f)) (hs:∀v,foldedSetIterable it X.env v=pure v) :
  PS X (.For tg it body [] pos) (w9 X.K fun s=>(ei (view (freeze fz s))).bind fun ds=>loop t f ds (freeze fz s)) :=
 jT (Kv hp hc hi hg hb hs) fun D σ H ⟨F0,B,F,s,o,S,e,q⟩=>by
  obtain ⟨ds,e1,e2⟩:=ab.mp e
  obtain ⟨F1,s1,S1⟩:=S.freeze fz
  refine ⟨F1,view (freeze fz s),ds,S1.ext.fh,S1.slots,e1,fun J F2 H2 ex it=>?_⟩
  have S2:=S1.expr ex
  have QV:bT F F2:=s1.trans ex.ff
  refine ⟨fun i m fb H'=>m=ds.length - i∧i≤ds.length∧∃F3 s3,bT F2 F3∧mH X.K F0 B F3 H' fb s3∧loop t f (ds.drop i) s3=some o,
   ⟨ds.length,by simp,c8 _,F2,freeze fz s,same_refl F2,S2,e2⟩,?_⟩
  rintro i m fb H' ⟨rfl,hi,F3,s3,Vq,S3,e3⟩
  have sH:bT F2 H':=Vq.trans S3.ext.fh
  by_cases DO:i < ds.length
  ·obtain ⟨y,hy⟩:∃y,ds[i]?=some y:=⟨_,au DO⟩
   have Lf:ds.drop i=y::ds.drop (i+1):=by
    rw [FF DO]
    congr 1
    rw [au DO] at hy
    exact bA.inj hy
   rw [Lf] at e3
   unfold loop at e3
   obtain ⟨s4,e4,e3⟩:=ab.mp e3
   obtain ⟨o1,e5,e3⟩:=ab.mp e3
   refine .inr ⟨it.go i y H' sH hy,fun Uh Yy=>i+1≤ds.length∧∃F3 s3,bT F2 F3∧mH X.K F0 B F3 Yy Uh s3∧loop t f (ds.drop (i+1)) s3=some o,fun Uh Yy hn=>⟨ds.length - (i+1),by omega,rfl,hn.1,hn.2⟩,fun w H4 hw=>?_⟩
   obtain ⟨F4,sU,dw⟩:=it.IV i y H' sH hy w H4 hw F3 Vq S3.ext.fh
   refine Ue ht (S3.expr sU) dw e4 fun σ5 S5=>⟨F0,B,F4,s4,o1,S5,e5,?_⟩
   have Vr:bT F2 F4:=Vq.trans sU.ff
   cases o1 with
   | nx s6=>exact fun F6 H6 SA sm S6=>⟨by omega,F6,s6,Vr.trans sm,S6,e3⟩
   | ct s6=>exact fun F6 H6 SA sm S6=>⟨by omega,F6,s6,Vr.trans sm,S6,e3⟩
   | bk s6=>cases e3;exact fun F6 H6 SA sm S6=>q F6 H6 SA (QV.trans (Vr.trans sm)) S6
   | rt d=>cases e3;exact fun v F6 H6 sm S6 dn=>q v F6 H6 (QV.trans (Vr.trans sm)) S6 dn
  ·have Xm:i=ds.length:=by omega
   subst Xm
   rw [Px] at e3
   simp [loop] at e3
   subst e3
   exact .inl ⟨it.stop _ H' sH (aW _),q F3 H' fb (QV.trans Vq) S3⟩
theorem Ui {el:eA→Option (List D)} {fz:List Nat} (h:PS X (.Assign [.Name x pos'] e pos) (vP (J8 X.K el) (kU i))):PS X (.Assign [.Name x pos'] e pos) (w9 X.K fun s=>(el (view (freeze fz s))).bind fun l=>some (.nx (sset (freeze fz s) i (.ow l)))) :=
 jT h fun D σ H ⟨F0,B,F,s,o,S,e,q⟩=>by
  obtain ⟨l,e1,e2⟩:=ab.mp e
  cases e2
  obtain ⟨F1,s1,S1⟩:=S.freeze fz
  refine ⟨F1,view (freeze fz s),l,S1.ext.fh,S1.slots,e1,fun p vs F' H' ex hp fp hv hz dl=>?_⟩
  obtain ⟨hB,_,hn⟩:=S1.fresh hp
  exact q F' H' _ (s1.trans ex.ff) ((S1.expr ex).own hB fp hn hv hz dl)
theorem Ek {s s1:List Sl} {i:Nat} {m:List D} (h:Cb s i m=some s1):∃l,gh s i=.ow l∧l.length+m.length≤sizeLine∧s1=sset s i (.ow (l++m)):=by
 unfold Cb at h
 split at h
 ·rename_i l q
  by_cases hz:l.length+m.length≤sizeLine
  ·rw [if_pos hz] at h
   exact ⟨l,q,hz,(bA.inj h).symm⟩
  ·rw [if_neg hz] at h;cases h
 ·cases h
theorem uE {K:aa} {F0 B F H:Hp} {σ:L2.St} {t:List Sl} {ev:eA→Option D} {i:Nat} {d:D} {l:List D} {Q:L2.St→Hp→Prop} {r:V→List V→Hp→VK→Prop} {ρ:eA} {F1:Hp}
  (S:mH K F0 B F H σ t) (hi:gh t i=.ow l) (sm1:bT F1 H) (sl:Slots K F1 σ ρ) (e:ev ρ=some d)
  (go:∀a vs,σ[i]?=some (some (.ref a))→H a=some (.lst vs)→l.length=vs.length→∀y F2 H2,Ext F1 H F2 H2→Den K F2 d y→r (.ref a) [y] H2 (fun _ H'=>Q σ H')) :
  DK (SX K "list" r (rQ i) (HH K fun ρ=>(ev ρ).bind fun x=>((fun _=>some []) ρ:Option (List D)).bind fun xs=>some (x::xs))) { nx:=Q,rt:=fun _ _=>True } σ H:=by
 obtain ⟨a,vs,h1,h2,h3,h4,h5,h6⟩:=S.ow i l hi
 refine ⟨.ref a,h1,.inl ⟨rfl,vs,eS.of h4⟩,F1,ρ,[d],sm1,sl,by simp [e],fun us F2 H2 ex dn=>?_⟩
 obtain ⟨y,r',rfl,d1,d2⟩:=bJ dn
 obtain rfl:=bL d2
 exact go a vs h1 h4 (bM h6) y F2 H2 ex d1
theorem HY {o a:Expr} {apos jM:Pos} {name:Str} {id:String} {r:V→List V→Hp→VK→Prop} {to:TE} {ev:eA→Option D} (slot:Slot "list" name id) (SY:typeOf (.builtin id)=pure (.type "method_descriptor")) (hm:Vf X id r)
  (ho:PE X o to) (hb:based o=true) (ha:PE X a (tM X.K ev)) (hp:plain a=true) (hl:(apos.endLine == jM.line)=true) :
  PE X (.Call (.Attribute o name apos) [a] [] jM) (SX X.K "list" r to (HH X.K fun ρ=>(ev ρ).bind fun x=>((fun _=>some []) ρ:Option (List D)).bind fun xs=>some (x::xs))) :=
 sM PySem.F.plainAttrs_list slot SY hm ho (jP ha pY hp) (xY hb) (by rw [cY hp];rfl) hl (cY hp) rfl
theorem Uj {a:Expr} {apos jM Lm:Pos} {ev:eA→Option D} {fz:List Nat} (hv:PE X (.Name x Lm) (rQ i)) (ha:PE X a (tM X.K ev)) (hp:plain a=true) (hl:(apos.endLine == jM.line)=true) :
  PS X (.Expr (.Call (.Attribute (.Name x Lm) "append" apos) [a] [] jM) pos) (w9 X.K fun s=>(ev (view (freeze fz s))).bind fun d=>(Cb (after d fz s) i [d]).bind fun s1=>some (.nx s1)) :=
 jT (iT (HY PySem.F.slot_list_append PySem.F.type_list_append nR hv rfl ha hp hl)) fun D σ H ⟨F0,B,F,s,o,S,e,q⟩=>by
  obtain ⟨d,e1,e2⟩:=ab.mp e
  obtain ⟨s1,e3,e4⟩:=ab.mp e2
  cases e4
  obtain ⟨l,hi,hz,rfl⟩:=Ek e3
  obtain ⟨F1,sm,S1⟩:=S.freeze fz
  rw [rO] at hz
  cases hs:Th d with
  | true =>
   have ea:after d fz s=s:=by unfold after;rw [hs]
   rw [ea] at hi q
   refine uE (Q:=D.nx) S hi S1.ext.fh S1.slots e1 fun a vs h1 h2 h3 y F2 H2 ex dn=>?_
   refine ⟨a,vs,y,rfl,rfl,ex.hh _ _ h2,by omega,q F _ σ (same_refl F) ?_⟩
   exact (S.keep ex.hh).grow hi h1 (ex.hh _ _ h2) hz (bB (HG dn hs) bU)
  | false =>
   have ea:after d fz s=freeze fz s:=by unfold after;rw [hs]
   rw [ea] at hi q
   refine uE (Q:=D.nx) S1 hi S1.ext.fh S1.slots e1 fun a vs h1 h2 h3 y F2 H2 ex dn=>?_
   refine ⟨a,vs,y,rfl,rfl,ex.hh _ _ h2,by omega,q F2 _ σ (sm.trans ex.ff) ?_⟩
   exact (S1.expr ex).grow hi h1 (ex.hh _ _ h2) hz (bB dn bU)
theorem Uk {a:Expr} {apos jM Lm:Pos} {ev:eA→Option D} {fz:List Nat} (hv:PE X (.Name x Lm) (rQ i)) (ha:PE X a (tM X.K ev)) (hp:plain a=true) (hl:(apos.endLine == jM.line)=true) :
  PS X (.Expr (.Call (.Attribute (.Name x Lm) "extend" apos) [a] [] jM) pos) (w9 X.K fun s=>(ev (view (freeze fz s))).bind fun d=>(listOf d).bind fun l=>(Cb (freeze fz s) i l).bind fun s1=>some (.nx s1)) :=
 jT (iT (HY PySem.F.slot_list_extend PySem.F.type_list_extend um hv rfl ha hp hl)) fun D σ H ⟨F0,B,F,s,o,S,e,q⟩=>by
  obtain ⟨d,e1,e2⟩:=ab.mp e
  obtain ⟨m,e5,e2⟩:=ab.mp e2
  obtain ⟨s1,e3,e4⟩:=ab.mp e2
  cases e4
  obtain rfl:d=.lst m:=by cases d<;>simp [listOf] at e5;rw [e5]
  obtain ⟨l,hi,hz,rfl⟩:=Ek e3
  obtain ⟨F1,sm,S1⟩:=S.freeze fz
  refine uE (Q:=D.nx) S1 hi S1.ext.fh S1.slots e1 fun a vs h1 h2 h3 y F2 H2 ex dn=>?_
  obtain ⟨z1,l1,v1,rfl,g1,r1⟩:=dd dn
  have hl:=bM r1
  refine ⟨a,l1,vs,v1,rfl,rfl,ex.hh _ _ h2,ex.fh _ _ g1,by omega,q F2 _ σ (sm.trans ex.ff) ?_⟩
  exact (S1.expr ex).grow hi h1 (ex.hh _ _ h2) hz r1
def Jx:Expr→Bool
 | .ListComp ..=>true
 | _=>false
theorem Ln {x:Expr} {t:Option Expr} {l:Nat} {env:Env} (h:plain x=true) (h2:Jx x=false):swapsWith x t l env=pure false:=by
 cases x<;>first|rfl|(simp [Jx] at h2;done)|(simp [plain] at h;done)
theorem HZ {t:TE} {a:Expr} (hN:X.N.Nodup) (hi:X.N[i]?=some x) (hx:Loc X.env.scope x) (hf:X.fn x=true∨X.env.scope.names.lookup x=some .local) (h:PE X a t) (hp:plain a=true) (h2:Jx a=false):PS X (.Assign [.Name x pos'] a pos) (vP t (kU i)) :=
 dh hN hi hx h (Ln hp h2) hf
end
end Mi
namespace Mi
open PySem PySem.Spec PyProof.Rows L2
def sY (s:Stmt) (k:Str→Expr→Bool):Bool:=match s with|.Assign [.Name n _] v _=>k n v|_=>false
def Lo (s:Stmt) (k:Str→Operator→Expr→Bool):Bool:=match s with|.AugAssign (.Name n _) o v _=>k n o v|_=>false
def H0 (s:Stmt) (k:Str→Str→Expr→Bool):Bool:=match s with|.Expr (.Call (.Attribute (.Name n _) m apos) [v] [] jM) _=>(apos.endLine == jM.line)&&k n m v|_=>false
def Lp (s:Stmt) (k:Expr→Bool):Bool:=match s with|.Return (some v) _=>k v|_=>false
def Lq (s:Stmt) (k:Expr→List Stmt→List Stmt→Bool):Bool:=match s with|.If c a b _=>k c a b|_=>false
def Lr (s:Stmt) (k:Expr→Expr→List Stmt→Bool):Bool:=match s with|.For t i b [] _=>k t i b|_=>false
def Ls (s:Stmt):Bool:=match s with|.Break _=>true|_=>false
def Gq (s:Stmt):Bool:=match s with|.Continue _=>true|_=>false
def Gr (s:Stmt):Bool:=match s with|.Pass _=>true|_=>false
theorem sZ {s:Stmt} {k:Str→Expr→Bool} (h:sY s k=true):∃n p v q,s=.Assign [.Name n p] v q∧k n v=true:=by unfold sY at h;split at h;exact ⟨_,_,_,_,rfl,h⟩;cases h
theorem Jy {s:Stmt} {k:Str→Operator→Expr→Bool} (h:Lo s k=true):∃n p o v q,s=.AugAssign (.Name n p) o v q∧k n o v=true:=by unfold Lo at h;split at h;exact ⟨_,_,_,_,_,rfl,h⟩;cases h
theorem Bv {s:Stmt} {k:Str→Str→Expr→Bool} (h:H0 s k=true):∃n p m a v c q,s=.Expr (.Call (.Attribute (.Name n p) m a) [v] [] c) q∧(a.endLine == c.line)=true∧k n m v=true:=by
 unfold H0 at h;split at h
 ·rw [ag] at h;exact ⟨_,_,_,_,_,_,_,rfl,h.1,h.2⟩
 ·cases h
theorem Jz {s:Stmt} {k:Expr→Bool} (h:Lp s k=true):∃v q,s=.Return (some v) q∧k v=true:=by unfold Lp at h;split at h;exact ⟨_,_,rfl,h⟩;cases h
theorem JA {s:Stmt} {k:Expr→List Stmt→List Stmt→Bool} (h:Lq s k=true):∃c a b q,s=.If c a b q∧k c a b=true:=by unfold Lq at h;split at h;exact ⟨_,_,_,_,rfl,h⟩;cases h
theorem JB {s:Stmt} {k:Expr→Expr→List Stmt→Bool} (h:Lr s k=true):∃t i b q,s=.For t i b [] q∧k t i b=true:=by unfold Lr at h;split at h;exact ⟨_,_,_,_,rfl,h⟩;cases h
theorem JC {s:Stmt} (h:Ls s=true):∃q,s=.Break q:=by unfold Ls at h;split at h;exact ⟨_,rfl⟩;cases h
theorem Gs {s:Stmt} (h:Gq s=true):∃q,s=.Continue q:=by unfold Gq at h;split at h;exact ⟨_,rfl⟩;cases h
theorem Gu {s:Stmt} (h:Gr s=true):∃q,s=.Pass q:=by unfold Gr at h;split at h;exact ⟨_,rfl⟩;cases h
def Gv:E→Bool
 | .lst _=>true
 | .comp _ _ _ _=>true
 | _=>false
def Lu:O2→Option Operator
 | .add=>some .Add|.sub=>some .Sub|.bor=>some .BitOr
 | _=>none
mutual
def s_ (N:List Str) (sc:Scope):S→Stmt→Bool
 | .asg i e _,st=>sY st fun n v=>decide (N[i]?=some n)&&Ju sc n&&bK N sc e v
 | .own i e _,st=>sY st fun n v=>decide (N[i]?=some n)&&Ju sc n&&Gv e&&bK N sc e v
 | .aug i o e,st=>Lo st fun n op v=>decide (N[i]?=some n)&&Ju sc n&&decide (Lu o=some op)&&bK N sc e v
 | .app i e _,st=>H0 st fun n m v=>decide (m = "append")&&decide (N[i]?=some n)&&Li sc n&&r4 n&&bK N sc e v
 | .ext i e _,st=>H0 st fun n m v=>decide (m = "extend")&&decide (N[i]?=some n)&&Li sc n&&r4 n&&bK N sc e v
 | .ret e _,st=>Lp st fun v=>bK N sc e v
 | .jj c a b,st=>Lq st fun xc xa xb=>je c&&bK N sc c xc&&bV N sc a xa&&bV N sc b xb
 | .jk t it _ body,st=>Lr st fun xt xi xb=>match qG t xt with
  | some own=>Q0 N sc own&&rg N sc it xi (isTup xt)&&bV N sc body xb
  | none=>false
 | .brk,st=>Ls st
 | .cont,st=>Gq st
 | .pass,st=>Gr st
def bV (N:List Str) (sc:Scope):Ss→List Stmt→Bool
 | .nil,[]=>true
 | .cons a r,x::xs=>s_ N sc a x&&bV N sc r xs
 | _,_=>false
end
mutual
def ib (c:Cc):S→Prop
 | .asg _ e _=>dI c e
 | .own _ e _=>dI c e
 | .aug _ _ e=>dI c e
 | .app _ e _=>dI c e
 | .ext _ e _=>dI c e
 | .ret e _=>dI c e
 | .jj d a b=>dI c d∧dj c a∧dj c b
 | .jk _ it _ body=>iC c it∧dj c body
 | .brk=>True
 | .cont=>True
 | .pass=>True
def dj (c:Cc):Ss→Prop
 | .nil=>True
 | .cons a r=>ib c a∧dj c r
end
theorem vA {X:Cx} {st:Stmt} {f g:List Sl→Option Out} (h:PS X st (w9 X.K f)) (e:∀s,g s=f s):PS X st (w9 X.K g):=by
 have:g=f:=funext e
 rw [this];exact h
theorem Lv {X:Cx} {st:List Stmt} {f g:List Sl→Option Out} (h:vO X st (w9 X.K f)) (e:∀s,g s=f s):vO X st (w9 X.K g):=by
 have:g=f:=funext e
 rw [this];exact h
theorem Lw {k:Nat} {X:Cx} {t:Tg} {it:It} {c:Oe} {e:E} {v:Expr} {x:Str} {i:Nat} {pos pos':Pos} (G:Good X k) (ok:dI (Cx.cc X k) (.comp t it c e)) (h:bK X.N X.env.scope (.comp t it c e) v=true) (hi:X.N[i]?=some x) (hx:Loc X.env.scope x) (hf:X.fn x=true∨X.env.scope.names.lookup x=some .local) :
  (∀l,t=.tp l→l.length=2)∧PS X (.Assign [.Name x pos'] v pos) (vP (OX (HI X.K (pC it)) (Cf X.K t) (sR X.K (Bj c)) (tM X.K (bF e)) t.slots) (kU i)):=by
 unfold bK at h
 unfold dI at ok
 have hi:=ou h
 clear h
 obtain ⟨xe,xt,xi,xl,scope,p,rfl,h⟩:=hi
 split at h
 ·rename_i own Ei
  simp only [ag,decide_eq_true_eq] at h
  obtain ⟨⟨⟨⟨⟨h1,h2⟩,h3⟩,h4⟩,h5⟩,h6⟩:=h
  refine ⟨Gn Ei,?_⟩
  rw [←h3]
  have Yz:=sI (tg:=xt) it G ok.1 h4
  have hg:∀(s:Shared) (H:Hp) (C:Addr) (cl:List (Str×Addr)) (fp:List Addr),PG (X.ra s H scope (compEnvC scope cl C X.env) fp) xt (Cf X.K t):=fun s H C cl fp=>Gp (X:=X.ra s H scope (compEnvC scope cl C X.env) fp) G.calm G.nd Ei (fun p hp=>(qH h2 p hp).1) fun p hp=>HR (qH h2 p hp).2
  have ht:∀(s:Shared) (H:Hp) (C:Addr) (cl:List (Str×Addr)) (fp:List Addr),NG (X.ra s H scope (compEnvC scope cl C X.env) fp) xl (sR X.K (Bj c)):=fun s H C cl fp=>sC c (G.ra s H scope cl C fp) ok.2.1 h5
  have he:∀(s:Shared) (H:Hp) (C:Addr) (cl:List (Str×Addr)) (fp:List Addr),PE (X.ra s H scope (compEnvC scope cl C X.env) fp) xe (tM X.K (bF e)):=fun s H C cl fp=>sE e (G.ra s H scope cl C fp) ok.2.2 h6
  have WN:∃b:Bool,swapsWith (.ListComp xe [⟨xt,xi,xl,0⟩] scope p) (some (.Name x pos')) pos.line X.env=pure b∧(b=true→X.env.kindOf x=some .local):=by
   refine ⟨X.env.blockKind == .function&&X.env.kindOf x == some .local&&pos'.line == p.line&&!(scope.names.any fun (n,k)=>n == x&&(k == .local||k == .cell)),rfl,fun hb=>?_⟩
   simp only [ag,beq_iff_eq] at hb
   exact hb.1.1.2
  obtain ⟨b,hb,hl⟩:=WN
  cases b with
  | true=>exact KU G.calm G.nd hi (hl rfl) hb Yz (xO h1) hg ht he (ot (ox h4))
  | false=>exact dh G.nd hi hx (OY G.calm G.nd Yz (xO h1) hg ht he (ot (ox h4))) hb hf
 ·cases h
theorem Pf {N:List Str} {sc:Scope} {e:E} {x:Expr} (h:bK N sc e x=true) (hc:∀t it c d,e≠.comp t it c d):Jx x=false:=by
 cases hx:Jx x with
 | false=>rfl
 | true =>
  have:∃a b c d,x=.ListComp a b c d:=by
   unfold Jx at hx
   split at hx
   ·exact ⟨_,_,_,_,rfl⟩
   ·cases hx
  obtain ⟨a,b,c,d,rfl⟩:=this
  have pl:=h
  cases e<;>unfold bK at h
  case comp=>exact absurd rfl (hc _ _ _ _)
  case op o _ _ =>
   split at h
   ·simp [HP] at h
   ·split at h
    ·simp [HQ] at h
    ·cases h
  case un o _ =>
   split at h
   ·simp [jm] at h
   ·split at h
    ·simp [Jt] at h
    ·simp [jm] at h
    ·cases h
  all_goals (simp [yb,qF,Jt,yc,N2,Cg,jm,Ci,Cj,wY,Bs] at h)
theorem Xr {k:Nat} {X:Cx} {e:E} {v:Expr} {x:Str} {i:Nat} {pos pos':Pos} (G:Good X k) (ok:dI (Cx.cc X k) e) (h:bK X.N X.env.scope e v=true) (hi:X.N[i]?=some x) (hx:Loc X.env.scope x) (hf:X.fn x=true∨X.env.scope.names.lookup x=some .local) :
  PS X (.Assign [.Name x pos'] v pos) (vP (tM X.K (bF e)) (kU i)):=by
 by_cases hc:∃t it c d,e=.comp t it c d
 ·obtain ⟨t,it,c,d,rfl⟩:=hc
  obtain ⟨h2,q⟩:=Lw (pos:=pos) (pos':=pos') G ok h hi hx hf
  refine jT q fun D σ H hq=>?_
  refine O_ h2 ?_
  have e1:(fun ρ=>(pC it ρ).bind fun ds=>(iB (Bj c) (bF d) t (i7 ρ t.slots) ds).bind fun l=>some (.lst l))=bF (.comp t it c d):=by
   funext ρ;simp only [bF]
  rw [e1];exact hq
 ·exact HZ G.nd hi hx hf (sE e G ok h) (c7 h) (Pf h fun t it c d z=>hc ⟨t,it,c,d,z⟩)
theorem Xs {k:Nat} {X:Cx} {e:E} {v:Expr} {x:Str} {i:Nat} {pos pos':Pos} (G:Good X k) (ok:dI (Cx.cc X k) e) (h:bK X.N X.env.scope e v=true) (fr:Gv e=true) (hi:X.N[i]?=some x) (hx:Loc X.env.scope x) (hf:X.fn x=true∨X.env.scope.names.lookup x=some .local) :
  PS X (.Assign [.Name x pos'] v pos) (vP (J8 X.K fun ρ=>(bF e ρ).bind listOf) (kU i)):=by
 cases e<;>simp only [Gv,M_] at fr
 ·rename_i l
  have Jc:=c7 h
  have hlc:=Pf h fun t it c d z=>nomatch z
  unfold bK at h
  unfold dI at ok
  have hi:=l6 h
  clear h
  obtain ⟨xs,p,rfl,h⟩:=hi
  simp only [ag,decide_eq_true_eq] at h
  have hz:(1000:Nat)≤sizeLine:=by decide
  have q:=O5 (pos:=p) (R4 l G ok h.2) fun ρ ds e=>by rw [p6 e];omega
  have e1:(fun ρ=>(bF (.lst l) ρ).bind listOf)=jO l:=by
   funext ρ
   simp only [bF]
   cases jO l ρ<;>rfl
  rw [e1]
  exact HZ G.nd hi hx hf q Jc hlc
 ·rename_i t it c d
  obtain ⟨h2,q⟩:=Lw (pos:=pos) (pos':=pos') G ok h hi hx hf
  refine jT q fun D σ H hq=>?_
  refine Le h2 ?_
  have e1:(fun ρ=>(pC it ρ).bind fun ds=>iB (Bj c) (bF d) t (i7 ρ t.slots) ds)=fun ρ=>(bF (.comp t it c d) ρ).bind listOf:=by
   funext ρ
   simp only [bF]
   cases pC it ρ with
   | none=>rfl
   | some ds =>
    show iB (Bj c) (bF d) t (i7 ρ t.slots) ds=((iB (Bj c) (bF d) t (i7 ρ t.slots) ds).bind fun l=>some (.lst l)).bind listOf
    cases iB (Bj c) (bF d) t (i7 ρ t.slots) ds<;>rfl
  rw [e1];exact hq
theorem Q4 {X:Cx} {o:O2} {op:Operator} (h:Lu o=some op):∃ti,RQ X op ti∧∀(a:Option D) (d r:D),xS o a d=some r→∃m n z:Int,a=some (.int m)∧d=.int n∧r=.int z∧∀H Q,Q (.int z) H→ti (.int m) (.int n) H Q:=by
 have inv:∀(a:Option D) (d r:D),xS o a d=some r→∃m n:Int,a=some (.int m)∧d=.int n:=fun a d r q=>by
  unfold xS at q
  split at q
  ·exact ⟨_,_,rfl,rfl⟩
  ·cases q
 cases o<;>simp only [Lu,reduceCtorEq,bA.injEq] at h<;>subst h
 ·refine ⟨_,Ks,fun a d r q=>?_⟩
  obtain ⟨m,n,rfl,rfl⟩:=inv a d r q
  simp only [xS] at q
  cases q
  exact ⟨m,n,_,rfl,rfl,rfl,fun H Q hq=>⟨m,n,rfl,rfl,hq⟩⟩
 ·refine ⟨_,P6,fun a d r q=>?_⟩
  obtain ⟨m,n,rfl,rfl⟩:=inv a d r q
  simp only [xS] at q
  cases q
  exact ⟨m,n,_,rfl,rfl,rfl,fun H Q hq=>⟨m,n,rfl,rfl,hq⟩⟩
 ·refine ⟨_,QW,fun a d r q=>?_⟩
  obtain ⟨m,n,rfl,rfl⟩:=inv a d r q
  simp only [xS] at q
  cases q
  exact ⟨m,n,_,rfl,rfl,rfl,fun H Q hq=>⟨m,n,rfl,rfl,hq⟩⟩
mutual
theorem sS {k:Nat}:∀(a:S) {X:Cx} {st:Stmt},Good X k→(∀x,X.fn x=true)→PassesOwn (model X.prog X.w) X.A X.env X.xe→ib (Cx.cc X k) a→s_ X.N X.env.scope a st=true→PS X st (w9 X.K (uc a))
 | .asg i e fz,X,st,G,hf,hp,ok,h=>by
  unfold s_ at h
  unfold ib at ok
  have hi:=sZ h
  clear h
  obtain ⟨n,p,v,q,rfl,h⟩:=hi
  simp only [ag,decide_eq_true_eq] at h
  exact vA (Ua (fz:=fz) (Xr G ok h.2 h.1.1 (w8 h.1.2) (.inl (hf n)))) fun s=>by simp only [uc]
 | .own i e fz,X,st,G,hf,hp,ok,h=>by
  unfold s_ at h
  unfold ib at ok
  have hi:=sZ h
  clear h
  obtain ⟨n,p,v,q,rfl,h⟩:=hi
  simp only [ag,decide_eq_true_eq] at h
  exact vA (Ui (fz:=fz) (Xs G ok h.2 h.1.2 h.1.1.1 (w8 h.1.1.2) (.inl (hf n)))) fun s=>by
   simp only [uc]
   cases bF e (view (freeze fz s))<;>rfl
 | .aug i o e,X,st,G,hf,hp,ok,h=>by
  unfold s_ at h
  unfold ib at ok
  have hi:=Jy h
  clear h
  obtain ⟨n,p,op,v,q,rfl,h⟩:=hi
  simp only [ag,decide_eq_true_eq] at h
  obtain ⟨ti,h1,h2⟩:=Q4 (X:=X) h.1.2
  exact vA (Ud G.nd h.1.1.1 (w8 h.1.1.2) (.inl (hf n)) (sE e G ok h.2) h1 h2) fun s=>by simp only [uc]
 | .app i e fz,X,st,G,hf,hp,ok,h=>by
  unfold s_ at h
  unfold ib at ok
  have hi:=Bv h
  clear h
  obtain ⟨n,p,m,a,v,c,q,rfl,hl,h⟩:=hi
  simp only [ag,decide_eq_true_eq] at h
  obtain ⟨⟨⟨⟨rfl,h1⟩,h2⟩,h3⟩,h4⟩:=h
  exact vA (Uj (fz:=fz) (BZ h1 (Ck h2) (i8 h3).1 (i8 h3).2) (sE e G ok h4) (c7 h4) hl) fun s=>by simp only [uc]
 | .ext i e fz,X,st,G,hf,hp,ok,h=>by
  unfold s_ at h
  unfold ib at ok
  have hi:=Bv h
  clear h
  obtain ⟨n,p,m,a,v,c,q,rfl,hl,h⟩:=hi
  simp only [ag,decide_eq_true_eq] at h
  obtain ⟨⟨⟨⟨rfl,h1⟩,h2⟩,h3⟩,h4⟩:=h
  exact vA (Uk (fz:=fz) (BZ h1 (Ck h2) (i8 h3).1 (i8 h3).2) (sE e G ok h4) (c7 h4) hl) fun s=>by simp only [uc]
 | .ret e fz,X,st,G,hf,hp,ok,h=>by
  unfold s_ at h
  unfold ib at ok
  have hi:=Jz h
  clear h
  obtain ⟨v,q,rfl,h⟩:=hi
  exact vA (Ub (fz:=fz) (sE e G ok h)) fun s=>by simp only [uc]
 | .jj c a b,X,st,G,hf,hp,ok,h=>by
  unfold s_ at h
  unfold ib at ok
  have hi:=JA h
  clear h
  obtain ⟨xc,xa,xb,q,rfl,h⟩:=hi
  simp only [ag] at h
  exact vA (Uc (sT c G ok.1 h.1.1.2 h.1.1.1) (R5 a G hf hp ok.2.1 h.1.2) (R5 b G hf hp ok.2.2 h.2)) fun s=>by simp only [uc]<;>rfl
 | .jk t it fz body,X,st,G,hf,hp,ok,h=>by
  unfold s_ at h
  unfold ib at ok
  have hi:=JB h
  clear h
  obtain ⟨xt,xi,xb,q,rfl,h⟩:=hi
  split at h
  ·rename_i own Ei
   simp only [ag] at h
   exact vA (Ug (fz:=fz) hp G.calm (Gn Ei) (sI it G ok.1 h.1.2) (Gp G.calm G.nd Ei (fun p hp=>(qH h.1.1 p hp).1) fun p hp=>⟨(qH h.1.1 p hp).2,.inl (hf _)⟩) (R5 body G hf hp ok.2 h.2) (ot (ox h.1.2))) fun s=>by simp only [uc]
  ·cases h
 | .brk,X,st,G,hf,hp,ok,h=>by
  unfold s_ at h
  obtain ⟨q,rfl⟩:=JC h
  refine jT Ko fun D σ H ⟨F0,B,F,s,o,S,e,q⟩=>?_
  simp only [uc] at e
  cases e
  exact q F H σ (same_refl F) S
 | .cont,X,st,G,hf,hp,ok,h=>by
  unfold s_ at h
  obtain ⟨q,rfl⟩:=Gs h
  refine jT DJ fun D σ H ⟨F0,B,F,s,o,S,e,q⟩=>?_
  simp only [uc] at e
  cases e
  exact q F H σ (same_refl F) S
 | .pass,X,st,G,hf,hp,ok,h=>by
  unfold s_ at h
  obtain ⟨q,rfl⟩:=Gu h
  refine jT Nk fun D σ H ⟨F0,B,F,s,o,S,e,q⟩=>?_
  simp only [uc] at e
  cases e
  exact q F H σ (same_refl F) S
theorem R5 {k:Nat}:∀(l:Ss) {X:Cx} {st:List Stmt},Good X k→(∀x,X.fn x=true)→PassesOwn (model X.prog X.w) X.A X.env X.xe→dj (Cx.cc X k) l→bV X.N X.env.scope l st=true→vO X st (w9 X.K (cg l))
 | .nil,X,[],G,hf,hp,ok,h=>Lv T_ fun s=>by simp only [cg]
 | .cons a r,X,x::xs,G,hf,hp,ok,h=>by
  unfold bV at h
  unfold dj at ok
  rw [ag] at h
  exact Lv (Q3 (sS a G hf hp ok.1 h.1) (R5 r G hf hp ok.2 h.2)) fun s=>by simp only [cg]<;>rfl
 | .nil,X,_::_,G,hf,hp,ok,h=>by unfold bV at h;cases h
 | .cons _ _,X,[],G,hf,hp,ok,h=>by unfold bV at h;cases h
end
theorem nX:∀(ds:List D) (m:Nat) (i:Nat) (y:Sl),gh (ds.map Sl.fz++aG m .no) i=y→y≠.no→∃d,ds[i]?=some d∧y=.fz d
 | [],0,i,y,h,hy=>by simp [gh] at h;exact absurd h.symm hy
 | [],m+1,0,y,h,hy=>by simp [cM,gh] at h;exact absurd h.symm hy
 | [],m+1,i+1,y,h,hy=>by
  obtain ⟨d,h1,_⟩:=nX [] m i y (by simpa [cM,gh] using h) hy
  simp at h1
 | d::ds,m,0,y,h,hy=>by
  simp [gh] at h
  exact ⟨d,rfl,h.symm⟩
 | d::ds,m,i+1,y,h,hy=>by
  obtain ⟨x,h1,h2⟩:=nX ds m i y (by simpa [gh] using h) hy
  exact ⟨x,by simpa using h1,h2⟩
theorem uF {K:aa} {F H:Hp} {N:List Str} {vs:List V} {ds:List D} (sm:bT F H) (dl:cG K F ds vs):mH K F H F H (L2.start N vs) (ds.map Sl.fz++aG (N.length - ds.length) .no):=by
 have hl:=bM dl
 refine ⟨.refl sm,by simp [L2.start,hl],fun i d q=>?_,fun i l q=>?_,fun i j l m a _ q=>?_⟩
 ·obtain ⟨x,h1,h2⟩:=nX _ _ _ _ q (fun z=>nomatch z)
  cases h2
  obtain ⟨v,h3,h4⟩:=fg dl h1
  refine ⟨v,?_,h4⟩
  have hi:i < vs.length:=(cw.mp h3).1
  unfold L2.start
  rw [i5 (by rw [af];exact hi),b8,h3]
  rfl
 ·obtain ⟨x,h1,h2⟩:=nX _ _ _ _ q (fun z=>nomatch z)
  cases h2
 ·obtain ⟨x,h1,h2⟩:=nX _ _ _ _ q (fun z=>nomatch z)
  cases h2
theorem Ul {P:Program} {w:World} {K:aa} {mg:Str→Option Value} {base:Heap} {x qual:Str} {st:Stmt} {f:Addr} {fd:FuncData} {N ps:List Str} {k:Nat} {body:Ss} (F:pG K x qual st f fd) (S:aR N ps (ai st))
  (hc:bV N (ai st) body (a_ st)=true) (ok:dj ⟨P,w,K,mg,base,k⟩ body) (bl:Vp mg):eI P w K mg base ia (k+1) f fd ps (MZ K ps.length (bN N.length body)):=by
 refine F.ok S (fun vs H Q E h=>h.1) (fun eU A outer s H vs Q E hr h=>?_)
 obtain ⟨hl,F0,ds,d,sm,dl,e,q⟩:=h
 have G:Good (gY ia P w K mg base N qual (ai st) f eU A outer s H E).qC k:=⟨hr,rfl,S.nd,bl⟩
 refine ⟨w9 K (cg body),R5 body G (fun _=>rfl) PassesOwn.never ok hc,?_⟩
 unfold bN at e
 obtain ⟨o,e1,e2⟩:=ab.mp e
 refine ⟨F0,H,F0,_,o,uF sm dl,e1,?_⟩
 cases o with
 | nx s1=>cases e2;exact fun F' H' fb _ S'=>q .gg F' H' S'.ext K7
 | rt r=>cases e2;exact fun v F' H' _ ex dn=>q v F' H' ex dn
 | bk s1=>cases e2
 | ct s1=>cases e2
theorem Um {P:Program} {w:World} {K:aa} {mg:Str→Option Value} {base:Heap} {k:Nat} {f:Addr} {fd:FuncData} {ps:List Str} {g g':List D→Option D} (F:eI P w K mg base ia k f fd ps (MZ K ps.length g)) (h:∀ds d,g' ds=some d→g ds=some d) :
  eI P w K mg base ia k f fd ps (MZ K ps.length g') :=
 F.imp fun vs H Q E ⟨hl,F0,ds,d,sm,dl,e,q⟩=>⟨hl,F0,ds,d,sm,dl,h ds d e,q⟩
end Mi
namespace Wy
open Kh321
def markFrom (n:Nat):Nat→List Nat→Nat→Nat
 | _,[],m=>m
 | x,h::r,m=>markFrom n (x+1) r (m ||| 2 ^ (x*n+h - 1))
def mark (n:Nat) (r:List Nat):Nat:=markFrom n 0 r 0
def Row (n:Nat) (r:List Nat):Prop:=r.length=n∧∀h∈r,1≤h∧h≤n
theorem tf (n:Nat):∀(r:List Nat) (x m j:Nat),(markFrom n x r m).testBit j=true ↔ m.testBit j=true∨∃y h,r[y]?=some h∧j=(x+y)*n+h - 1
 | [],x,m,j=>by simp [markFrom]
 | h::r,x,m,j=>by
  rw [markFrom,tf n r (x+1) _ j,ua,gy,cZ,decide_eq_true_eq]
  constructor
  ·rintro ((h1|h1)|⟨y,g,h1,h2⟩)
   ·exact .inl h1
   ·exact .inr ⟨0,h,rfl,by simp [h1]⟩
   ·exact .inr ⟨y+1,g,by simpa using h1,by rw [h2];congr 3;omega⟩
  ·rintro (h1|⟨y,g,h1,h2⟩)
   ·exact .inl (.inl h1)
   ·cases y with
    | zero =>
     simp at h1
     subst h1
     exact .inl (.inr (by simp [h2]))
    | succ y=>exact .inr ⟨y,g,by simpa using h1,by rw [h2];congr 3;omega⟩
theorem JD {n x y g h:Nat} (hg:1≤g∧g≤n) (hh:1≤h∧h≤n) (e:x*n+g - 1=y*n+h - 1):x=y∧g=h:=by
 have hn:0 < n:=by omega
 have e2:x*n+(g - 1)=y*n+(h - 1):=by omega
 have h1:(x*n+(g - 1)) / n=x:=by
  rw [rE,Ka _ _ hn,lU (by omega),cn]
 have h2:(y*n+(h - 1)) / n=y:=by
  rw [rE,Ka _ _ hn,lU (by omega),cn]
 have h3:x=y:=by rw [←h1,e2,h2]
 subst h3
 exact ⟨rfl,by omega⟩
def apart (q r:List Nat):Bool:=(q.zip r).all fun x=>x.1 != x.2
theorem Bw {q r:List Nat} (_hl:q.length=r.length):apart q r=true ↔ ∀(y h:Nat),q[y]?=some h→r[y]?=some h→False:=by
 unfold apart
 rw [aX]
 constructor
 ·intro H y h h1 h2
  have:=H (h,h) (by
   rw [J0]
   exact ⟨y,by rw [FG];exact ⟨h1,h2⟩⟩)
  simp at this
 ·rintro H ⟨a,b⟩ Ej
  rw [J0] at Ej
  obtain ⟨y,hy⟩:=Ej
  rw [FG] at hy
  simp only [bne_iff_ne,ne_eq]
  intro e
  subst e
  exact H y a hy.1 hy.2
theorem and_zero {a b:Nat}:a &&& b=0 ↔ ∀j,¬(a.testBit j=true∧b.testBit j=true):=by
 constructor
 ·intro h j ⟨h1,h2⟩
  have:(a &&& b).testBit j=true:=by rw [Nat.testBit_and,h1,h2];rfl
  rw [h] at this
  simp at this
 ·intro h
  apply ub
  intro j
  rw [Nat.testBit_and,Nat.zero_testBit]
  cases h1:a.testBit j<;>cases h2:b.testBit j<;>simp
  exact h j ⟨h1,h2⟩
def marks (n:Nat) (l:List (List Nat)):Nat:=l.foldl (fun m r=>m ||| mark n r) 0
theorem Gw (n:Nat) (l:List (List Nat)) (r:List Nat):marks n (l++[r])=marks n l ||| mark n r:=by
 unfold marks;rw [List.foldl_append];rfl
theorem uG (n:Nat):∀(l:List (List Nat)) (m j:Nat),(l.foldl (fun m r=>m ||| mark n r) m).testBit j=true ↔ m.testBit j=true∨∃r∈l,(mark n r).testBit j=true
 | [],m,j=>by simp
 | r::l,m,j=>by
  rw [b9,uG n l _ j,ua,cZ]
  constructor
  ·rintro ((h|h)|⟨q,h1,h2⟩)
   ·exact .inl h
   ·exact .inr ⟨r,by simp,h⟩
   ·exact .inr ⟨q,by simp [h1],h2⟩
  ·rintro (h|⟨q,h1,h2⟩)
   ·exact .inl (.inl h)
   ·rcases aF.mp h1 with rfl|h1
    ·exact .inl (.inr h2)
    ·exact .inr ⟨q,h1,h2⟩
theorem El {n:Nat} {l:List (List Nat)} {r:List Nat} (hl:∀q∈l,Row n q) (hr:Row n r):(marks n l &&& mark n r=0) ↔ l.all (fun q=>apart q r)=true:=by
 rw [and_zero,aX]
 constructor
 ·intro H q hq
  rw [Bw ((hl q hq).1.trans hr.1.symm)]
  intro y h h1 h2
  refine H (y*n+h - 1) ⟨?_,?_⟩
  ·unfold marks
   rw [uG]
   exact .inr ⟨q,hq,by unfold mark;rw [tf];exact .inr ⟨y,h,h1,by simp⟩⟩
  ·unfold mark
   rw [tf]
   exact .inr ⟨y,h,h2,by simp⟩
 ·rintro H j ⟨h1,h2⟩
  unfold marks at h1
  rw [uG] at h1
  rcases h1 with h1|⟨q,hq,h1⟩
  ·simp at h1
  ·unfold mark at h1 h2
   rw [tf] at h1 h2
   rcases h1 with h1|⟨y,g,h1,e1⟩
   ·simp at h1
   ·rcases h2 with h2|⟨z,h,h2,e2⟩
    ·simp at h2
    ·obtain ⟨e3,e4⟩:=JD ((hl q hq).2 g (b7 h1)) (hr.2 h (b7 h2)) (by rw [cn] at e1 e2;rw [←e1,e2])
     subst e3 e4
     exact (Bw ((hl q hq).1.trans hr.1.symm)).mp (H q hq) y g h1 h2
def lay (n:Nat) (t:Town) (c:Clues) (y:Nat) (L:List (List (List Nat))):List (List (List Nat)) :=
 L.flatMap fun l=>((lineWays n t c 3 y).filter fun r=>l.all fun q=>apart q r).map fun r=>l++[r]
def Lx (n:Nat) (t:Town) (c:Clues):Nat→Nat→List (List (List Nat))→List (List (List Nat))
 | 0,_,L=>L
 | m+1,y,L=>Lx n t c m (y+1) (lay n t c y L)
theorem Bx (n:Nat) (t:Town) (c:Clues):∀(m y:Nat) (L:List (List (List Nat))),Lx n t c m y L=L.flatMap (rows n t c m y)
 | 0,y,L=>by
  show L=L.flatMap (fun l=>[l])
  induction L with
  | nil=>rfl
  | cons a L ih=>rw [b_,←ih];rfl
 | m+1,y,L=>by
  rw [Lx,Bx n t c m (y+1),lay,List.flatMap_assoc]
  congr 1
  funext l
  rw [rows,Py]
  rfl
def kept (n:Nat) (l:List (List Nat)):Nat×List Nat:=(marks n l,l.flatten)
def mI (B R:List (Nat×List Nat)):List (Nat×List Nat):=B.flatMap fun p=>(R.filter fun q=>decide (p.1 &&& q.1=0)).map fun q=>(p.1 ||| q.1,p.2++q.2)
theorem kb {α β:Type} {f g:α→List β}:∀{l:List α},(∀a∈l,f a=g a)→l.flatMap f=l.flatMap g
 | [],_=>rfl
 | a::l,h=>by rw [b_,b_,h a (by simp),kb fun b hb=>h b (by simp [hb])]
theorem Em {n:Nat} {L:List (List (List Nat))} {R:List (List Nat)} (hL:∀l∈L,∀q∈l,Row n q) (hR:∀r∈R,Row n r) :
  mI (L.map (kept n)) (R.map fun r=>(mark n r,r))=(L.flatMap fun l=>(R.filter fun r=>l.all fun q=>apart q r).map fun r=>l++[r]).map (kept n):=by
 unfold mI
 rw [Py,pJ]
 apply kb
 intro l hl
 rw [a8,jF,a8]
 have e:(R.filter ((fun q:Nat×List Nat=>decide ((kept n l).1 &&& q.1=0))∘fun r=>(mark n r,r)))=R.filter fun r=>l.all fun q=>apart q r:=by
  apply cV
  intro r hr
  have:=El (hL l hl) (hR r hr)
  show decide (marks n l &&& mark n r=0)=_
  by_cases h:marks n l &&& mark n r=0
  ·rw [decide_eq_true h,this.mp h]
  ·rw [decide_eq_false h]
   cases q:(l.all fun q=>apart q r) with
   | false=>rfl
   | true=>exact absurd (this.mpr q) h
 rw [e]
 apply bQ
 intro r _
 simp only [Function.comp,kept,Gw,List.flatten_append,bz,Pz,fT]
end Wy
namespace Mi
open PySem
theorem g8 {α:Type} {c:eA→Option Bool} {e:eA→Option D} {t:Tg} {ρ:eA} (f:α→D) (p:α→Bool) (h:α→D):∀(xs:List α),(∀x∈xs,∃HN,Jn t (f x) ρ=some HN∧c HN=some (p x)∧(p x=true→e HN=some (h x))) →
  iB c e t ρ (xs.map f)=some ((xs.filter p).map h)
 | [],_=>by simp [iB]
 | x::xs,H=>by
  obtain ⟨HN,h1,h2,h3⟩:=H x (by simp)
  have ih:=g8 (c:=c) (e:=e) (t:=t) (ρ:=ρ) f p h xs fun y hy=>H y (by simp [hy])
  rw [aN,iB,h1]
  simp only [bw,h2]
  cases hp:p x with
  | true=>simp [h3 hp,ih,hp]
  | false=>simp [ih,hp]
theorem dC {α:Type} {c:eA→Option Bool} {e:eA→Option D} {t:Tg} {ρ:eA} (f:α→D) (h:α→D) (xs:List α) (H:∀x∈xs,∃HN,Jn t (f x) ρ=some HN∧c HN=some true∧e HN=some (h x)) :
  iB c e t ρ (xs.map f)=some (xs.map h):=by
 have:=g8 (c:=c) (e:=e) (t:=t) (ρ:=ρ) f (fun _=>true) h xs fun x hx=>by
  obtain ⟨HN,h1,h2,h3⟩:=H x hx
  exact ⟨HN,h1,h2,fun _=>h3⟩
 rw [this,ML.mpr (fun _ _=>rfl)]
theorem dD {α β:Type} {t:Tg} {body:List Sl→Option Out} (f:α→D) (step:β→α→β) (I:β→List α→List Sl→Prop)
  (hs:∀b a r s,I b (a::r) s→∃s1 s2,Gh t (f a) s=some s1∧body s1=some (.nx s2)∧I (step b a) r s2) :
  ∀(l:List α) (b:β) (s:List Sl),I b l s→∃s',loop t body (l.map f) s=some (.nx s')∧I (l.foldl step b) [] s'
 | [],b,s,h=>⟨s,by simp [loop],h⟩
 | a::r,b,s,h=>by
  obtain ⟨s1,s2,h1,h2,h3⟩:=hs b a r s h
  obtain ⟨s3,h4,h5⟩:=dD f step I hs r (step b a) s2 h3
  refine ⟨s3,?_,h5⟩
  rw [aN,loop,h1]
  simp only [bw,h2]
  exact h4
theorem qI {α:Type} {t:Tg} {body:List Sl→Option Out} (f:α→D) (I:List Sl→Prop) (g:α→Option D)
  (l:List α) (hs:∀s,I s→∀a∈l,∃s1,Gh t (f a) s=some s1∧(match g a with|some d=>body s1=some (.rt d)|none=>∃s2,body s1=some (.nx s2)∧I s2)) :
  ∀(s:List Sl),I s→match l.findSome? g with|some d=>loop t body (l.map f) s=some (.rt d)|none=>∃s',loop t body (l.map f) s=some (.nx s')∧I s':=by
 induction l with
 | nil=>intro s h;exact ⟨s,by simp [loop],h⟩
 | cons a r ih =>
  intro s h
  obtain ⟨s1,h1,h2⟩:=hs s h a (by simp)
  have ih':=ih fun s hI a' ha=>hs s hI a' (by simp [ha])
  cases hg:g a with
  | some d =>
   rw [hg] at h2
   simp only [c6,hg]
   rw [aN,loop,h1]
   simp only [bw,h2]
  | none =>
   rw [hg] at h2
   obtain ⟨s2,h2,h3⟩:=h2
   simp only [c6,hg]
   rw [aN,loop,h1]
   simp only [bw,h2]
   exact ih' s2 h3
section
variable {ρ HN:eA} {a b c:E} {x y d:D} {l:Es} {ds:List D}
theorem ah {i:Nat} (h:fv ρ i=some d):bF (.var i) ρ=some d:=by simp only [bF];exact h
theorem bb {z:Int}:bF (.int z) ρ=some (.int z):=by simp only [bF]
theorem JE {z:Bool}:bF (.bl z) ρ=some (.bl z):=by simp only [bF]
theorem bW {s:Str}:bF (.gl s d) ρ=some d:=by simp only [bF]
theorem bu {o:O2} (ha:bF a ρ=some x) (hb:bF b ρ=some y) (h:iA o x y=some d):bF (.op o a b) ρ=some d:=by
 simp only [bF];rw [ha,hb];exact h
theorem fC {o:O1} (ha:bF a ρ=some x) (h:vp o x=some d):bF (.un o a) ρ=some d:=by
 simp only [bF];rw [ha];exact h
theorem vB {k:Bool} (ha:bF a ρ=some (.bl k)):bF (.not a) ρ=some (.bl !k):=by
 simp only [bF];rw [ha];rfl
theorem cv {f:Str} (ha:bF a ρ=some x) (h:pX x f=some d):bF (.fld a f) ρ=some d:=by
 simp only [bF];rw [ha];exact h
theorem fE (ha:bF a ρ=some x) (hb:bF b ρ=some y) (h:Gf x y=some d):bF (.ix a b) ρ=some d:=by
 simp only [bF];rw [ha,hb];exact h
theorem Pg (ha:bF a ρ=some x) (hb:bF b ρ=some y) (h:Jo x y=some d):bF (.cnt a b) ρ=some d:=by
 simp only [bF];rw [ha,hb];exact h
theorem Q5 {z:D} (ha:bF a ρ=some x) (hb:bF b ρ=some y) (hc:bF c ρ=some z) (h:Ea x y z=some d):bF (.step a b c) ρ=some d:=by
 simp only [bF];rw [ha,hb,hc];exact h
theorem En {lo hi:Oe} {u v:Option Int} (ha:bF a ρ=some x) (hl:J7 lo ρ=some u) (hh:J7 hi ρ=some v) (h:J6 x u v=some d):bF (.sl a lo hi) ρ=some d:=by
 simp only [bF];rw [ha,hl,hh];exact h
theorem Xt:J7 .no ρ=some none:=by simp only [J7]
theorem pb {z:Int} (ha:bF a ρ=some (.int z)):J7 (.yes a) ρ=some (some z):=by
 simp only [J7];rw [ha];rfl
theorem aJ:jO .nil ρ=some []:=by simp only [jO]
theorem ao (ha:bF a ρ=some x) (hl:jO l ρ=some ds):jO (.cons a l) ρ=some (x::ds):=by
 simp only [jO];rw [ha,hl];rfl
theorem aL {f:Str} {g:List D→Option D} (hl:jO l ρ=some ds) (h:g ds=some d):bF (.call f g l) ρ=some d:=by
 simp only [bF];rw [hl];exact h
theorem cE (hl:jO l ρ=some ds):bF (.lst l) ρ=some (.lst ds):=by
 simp only [bF];rw [hl];rfl
theorem tj (hl:jO l ρ=some ds):bF (.tup l) ρ=some (.tup ds):=by
 simp only [bF];rw [hl];rfl
theorem uH {p q:Bool} (ha:bF a ρ=some (.bl p)) (hb:p=true→bF b ρ=some (.bl q)):bF (.and (.cons a (.cons b .nil))) ρ=some (.bl (p&&q)):=by
 simp only [bF,rG];rw [ha]
 cases p with
 | false=>rfl
 | true=>exact hb rfl
theorem Q6 {p q r:Bool} (ha:bF a ρ=some (.bl p)) (hb:p=true→bF b ρ=some (.bl q)) (hc:p=true→q=true→bF c ρ=some (.bl r)):bF (.and (.cons a (.cons b (.cons c .nil)))) ρ=some (.bl (p&&(q&&r))):=by
 simp only [bF,rG];rw [ha]
 cases p with
 | false=>rfl
 | true =>
  show ((bF b ρ).bind fun x=>(fB x).bind fun k=>match k with|true=>bF c ρ|false=>some (.bl false))=_
  rw [hb rfl]
  cases q with
  | false=>rfl
  | true=>exact hc rfl rfl
theorem By {p q:Bool} (ha:bF a ρ=some (.bl p)) (hb:p=false→bF b ρ=some (.bl q)):bF (.or (.cons a (.cons b .nil))) ρ=some (.bl (p||q)):=by
 simp only [bF,zX];rw [ha]
 cases p with
 | true=>rfl
 | false=>exact hb rfl
theorem Ph {p q r:Bool} (ha:bF a ρ=some (.bl p)) (hb:p=false→bF b ρ=some (.bl q)) (hc:p=false→q=false→bF c ρ=some (.bl r)):bF (.or (.cons a (.cons b (.cons c .nil)))) ρ=some (.bl (p||(q||r))):=by
 simp only [bF,zX];rw [ha]
 cases p with
 | true=>rfl
 | false =>
  show ((bF b ρ).bind fun x=>(fB x).bind fun k=>match k with|true=>some (.bl true)|false=>bF c ρ)=_
  rw [hb rfl]
  cases q with
  | true=>rfl
  | false=>exact hc rfl rfl
theorem d9 {t:Tg} {it:It} {k:Oe} {out:List D} (hi:pC it ρ=some ds) (h:iB (Bj k) (bF a) t (i7 ρ t.slots) ds=some out):bF (.comp t it k a) ρ=some (.lst out):=by
 simp only [bF];rw [hi]
 show (iB (Bj k) (bF a) t (i7 ρ t.slots) ds).bind _=_
 rw [h];rfl
theorem kC:Bj .no ρ=some true:=by simp only [Bj]
theorem oz {p:Bool} (ha:bF a ρ=some (.bl p)):Bj (.yes a) ρ=some p:=by simp only [Bj];rw [ha];rfl
theorem eJ (ha:bF a ρ=some (.lst ds)):pC (.lst a) ρ=some ds:=by simp only [pC];rw [ha];rfl
theorem iF (ha:bF a ρ=some x) (h:itR 0 x=some ds):pC (.pB a) ρ=some ds:=by simp only [pC];rw [ha];exact h
theorem N6 (ha:bF a ρ=some x) (hb:bF b ρ=some y) (h:Gg x y=some ds):pC (.D_ a b) ρ=some ds:=by simp only [pC];rw [ha,hb];exact h
theorem w_ (ha:bF a ρ=some (.lst ds)):pC (.enum a) ρ=some (nU 0 ds):=by simp only [pC];rw [ha];rfl
theorem Q7 {es:List D} (ha:bF a ρ=some (.lst ds)) (hb:bF b ρ=some (.lst es)):pC (.zip a b) ρ=some (rW ds es):=by simp only [pC];rw [ha,hb];rfl
end
section
variable {r a b:Ss} {s s1:List Sl} {i:Nat} {e c:E} {fz:List Nat} {d:D} {l:List D} {o:Out}
theorem cH (h:bF e (view (freeze fz s))=some d):cg (.cons (.asg i e fz) r) s=cg r (sset (after d fz s) i (.fz d)):=by
 simp only [cg,uc,h,bw]
theorem oA (h:bF e (view (freeze fz s))=some (.lst l)):cg (.cons (.own i e fz) r) s=cg r (sset (freeze fz s) i (.ow l)):=by
 simp only [cg,uc,h,bw,listOf]
theorem r6 {o:O2} {x:D} (h:bF e (bx s)=some d) (hx:xS o (fv (view s) i) d=some x):cg (.cons (.aug i o e) r) s=cg r (sset s i (.fz x)):=by
 simp only [cg,uc,h,hx,bw]
theorem yd (h:bF e (view (freeze fz s))=some d) (h2:Cb (after d fz s) i [d]=some s1):cg (.cons (.app i e fz) r) s=cg r s1:=by
 simp only [cg,uc,h,h2,bw]
theorem ye (h:bF e (view (freeze fz s))=some (.lst l)) (h2:Cb (freeze fz s) i l=some s1):cg (.cons (.ext i e fz) r) s=cg r s1:=by
 simp only [cg,uc,h,h2,bw,listOf]
theorem aU (h:bF e (view (freeze fz s))=some d):cg (.cons (.ret e fz) r) s=some (.rt d):=by
 simp only [cg,uc,h,bw]
theorem H_ (h:bF c (bx s)=some (.bl true)):cg (.cons (.jj c a b) r) s=(cg a s).bind fun o=>match o with|.nx s1=>cg r s1|.rt d=>some (.rt d)|.bk s1=>some (.bk s1)|.ct s1=>some (.ct s1):=by
 simp only [cg,uc,h,bw,fB]
 all_goals rfl
theorem Ia (h:bF c (bx s)=some (.bl false)):cg (.cons (.jj c a b) r) s=(cg b s).bind fun o=>match o with|.nx s1=>cg r s1|.rt d=>some (.rt d)|.bk s1=>some (.bk s1)|.ct s1=>some (.ct s1):=by
 simp only [cg,uc,h,bw,fB]
 all_goals rfl
theorem bG (h:bF c (bx s)=some (.bl true)) (h2:cg a s=some (.rt d)):cg (.cons (.jj c a b) r) s=some (.rt d):=by
 rw [H_ h,h2];rfl
theorem jn (h:bF c (bx s)=some (.bl true)) (h2:cg a s=some (.nx s1)):cg (.cons (.jj c a b) r) s=cg r s1:=by
 rw [H_ h,h2];rfl
theorem Eo (h:bF c (bx s)=some (.bl false)) (h2:cg b s=some (.nx s1)):cg (.cons (.jj c a b) r) s=cg r s1:=by
 rw [Ia h,h2];rfl
theorem bX (h:bF c (bx s)=some (.bl false)):cg (.cons (.jj c a .nil) r) s=cg r s:=by
 rw [Ia h];simp only [cg,bw]
theorem eV {t:Tg} {it:It} {ds:List D} (h:pC it (view (freeze fz s))=some ds) (h2:loop t (cg a) ds (freeze fz s)=some (.nx s1)):cg (.cons (.jk t it fz a) r) s=cg r s1:=by
 simp only [cg,uc,h,h2,bw]
theorem tm {t:Tg} {it:It} {ds:List D} (h:pC it (view (freeze fz s))=some ds) (h2:loop t (cg a) ds (freeze fz s)=some (.rt d)):cg (.cons (.jk t it fz a) r) s=some (.rt d):=by
 simp only [cg,uc,h,h2,bw]
theorem bc {n:Nat} {body:Ss} {ds:List D} (h:cg body (ds.map .fz++aG (n - ds.length) .no)=some (.rt d)):bN n body ds=some d:=by
 simp only [bN,h,bw]
end
noncomputable def kd {α:Type} (enc:α→List D) (pre:α→Prop) (out:α→D):List D→Option D:=fun ds=>open Classical in if h:∃x,enc x=ds∧pre x then some (out h.choose) else none
theorem bf {α:Type} {enc:α→List D} {pre:α→Prop} {out:α→D} {ds:List D} {d:D} (h:kd enc pre out ds=some d):∃x,enc x=ds∧pre x∧d=out x:=by
 unfold kd at h
 by_cases hx:∃x,enc x=ds∧pre x
 ·rw [dif_pos hx] at h
  exact ⟨hx.choose,hx.choose_spec.1,hx.choose_spec.2,(bA.inj h).symm⟩
 ·rw [dif_neg hx] at h;cases h
theorem b0 {α:Type} {enc:α→List D} {pre:α→Prop} {out:α→D} {x:α} (h:pre x) (inj:∀y,enc y=enc x→pre y→out y=out x):kd enc pre out (enc x)=some (out x):=by
 unfold kd
 have hx:∃y,enc y=enc x∧pre y:=⟨x,rfl,h⟩
 rw [dif_pos hx]
 rw [inj _ hx.choose_spec.1 hx.choose_spec.2]
end Mi
namespace Tn
open PySem Mi
def iN (n:Nat):D:=.int n
def iL (l:List Nat):D:=.lst (l.map iN)
def g9 (l:List (List Nat)):D:=.lst (l.map iL)
theorem cy {a b:Nat} (h:iN a=iN b):a=b:=by
 unfold iN at h;injection h with h;omega
theorem map_inj {α β:Type} {f:α→β} (hf:∀x y,f x=f y→x=y):∀{a b:List α},a.map f=b.map f→a=b
 | [],[],_=>rfl
 | [],_::_,h=>by simp at h
 | _::_,[],h=>by simp at h
 | x::a,y::b,h=>by
  rw [aN,aN] at h
  injection h with h1 h2
  rw [hf x y h1,map_inj hf h2]
theorem fP {a b:List Nat} (h:iL a=iL b):a=b:=by
 unfold iL at h;injection h with h;exact map_inj (fun _ _=>cy) h
theorem qJ {a b:List (List Nat)} (h:g9 a=g9 b):a=b:=by
 unfold g9 at h;injection h with h;exact map_inj (fun _ _=>fP) h
theorem gq:∀l:List Nat,intsOf (l.map iN)=some (l.map fun x:Nat=>(x:Int))
 | []=>rfl
 | x::l=>by
  have ih:=gq l
  rw [aN,iN,intsOf,ih];rfl
theorem Gx:∀(n k:Nat),sQ (k:Int) n=((aq n).map (·+k)).map iN
 | 0,k=>rfl
 | n+1,k=>by
  rw [gU,sQ,aN,aN,a8]
  have ih:=Gx n (k+1)
  have e:((k:Int)+1)=((k+1:Nat):Int):=by omega
  rw [e,ih]
  congr 1
  ·show D.int k=D.int ((0+k:Nat):Int)
   rw [cn]
  ·rw [a8,a8]
   apply bQ
   intro a _
   show iN (a+(k+1))=iN (a+1+k)
   congr 1;omega
theorem Xu (n:Nat):sQ 0 n=(aq n).map iN:=by
 have:=Gx n 0
 simpa using this
theorem Xv (n:Nat):sQ 1 n=(k0 n).map iN:=by
 have:=Gx n 1
 exact this
theorem rh {n:Nat} (h:n≤1000):itR 0 (iN n)=some ((aq n).map iN):=by
 have hz:(1000:Nat)≤sizeLine:=by decide
 have e:((n:Int) - 0).toNat=n:=by omega
 simp only [iN,itR]
 rw [if_pos ⟨by omega,by omega,by omega,by omega,by omega⟩,e,Xu]
theorem Xw {n:Nat} (h:n≤1000):Gg (.int 1) (.int ((n:Int)+1))=some ((k0 n).map iN):=by
 have hz:(1000:Nat)≤sizeLine:=by decide
 have e:((n:Int)+1 - 1).toNat=n:=by omega
 simp only [Gg,itR]
 rw [if_pos ⟨by omega,by omega,by omega,by omega,by omega⟩,e,Xv]
theorem Pj {l:List Nat} {i:Nat} (h:i < l.length):RY (l.map iN) (i:Int)=some (iN (l.getD i 0)):=by
 show (l.map iN)[i]?=_
 rw [b8,au h,aj,au h];rfl
theorem jo {l:List Nat} {i:Nat} (h:i < l.length):Gf (iL l) (iN i)=some (iN (l.getD i 0)):=Pj h
theorem p9 {a b:Nat} (h:a < 1000):iA .mul (iN a) (iN b)=some (iN (a*b)):=by
 simp only [iN,iA]
 rw [if_pos ⟨by omega,by omega⟩]
 rfl
theorem Ep {a b:Nat}:iA .lt (iN a) (iN b)=some (.bl (decide (a < b))):=by
 show some (D.bl (decide ((a:Int) < b)))=_
 congr 2;exact decide_eq_decide.mpr (by omega)
theorem i9 {a b:Nat}:iA .gt (iN a) (iN b)=some (.bl (decide (b < a))):=by
 show some (D.bl (decide ((b:Int) < a)))=_
 congr 2;exact decide_eq_decide.mpr (by omega)
theorem Uo {a b:Nat}:iA .le (iN a) (iN b)=some (.bl (decide (a≤b))):=by
 show some (D.bl (decide ((a:Int)≤b)))=_
 congr 2;exact decide_eq_decide.mpr (by omega)
theorem Pk {a b:Nat}:iA .ge (iN a) (iN b)=some (.bl (decide (b≤a))):=by
 show some (D.bl (decide ((b:Int)≤a)))=_
 congr 2;exact decide_eq_decide.mpr (by omega)
theorem fA {a b:Nat}:iA .eq (iN a) (iN b)=some (.bl (decide (a=b))):=by
 show some (D.bl (decide ((a:Int)=b)))=_
 congr 2;exact decide_eq_decide.mpr (by omega)
theorem Er {a b:Nat}:iA .ne (iN a) (iN b)=some (.bl (!decide (a=b))):=by
 show some (D.bl (!decide ((a:Int)=b)))=_
 congr 3;exact decide_eq_decide.mpr (by omega)
theorem d_ {a b:Nat}:iA .add (iN a) (iN b)=some (iN (a+b)):=rfl
theorem tu {x:Nat}:∀{l:List Nat},decide ((x:Int)∈l.map fun x:Nat=>(x:Int))=decide (x∈l)
 | []=>by simp
 | a::l=>by
  have ih:=tu (x:=x) (l:=l)
  rw [decide_eq_decide] at ih ⊢
  rw [aN,aF,aF,ih]
  constructor<;>rintro (h|h)
  ·exact .inl (by omega)
  ·exact .inr h
  ·exact .inl (by omega)
  ·exact .inr h
theorem Ly {x:Nat} {l:List Nat}:iA .isin (iN x) (iL l)=some (.bl (decide (x∈l))):=by
 have e:iA .isin (iN x) (iL l)=((intsOf (l.map iN)).bind fun y=>some (decide ((x:Int)∈y))).bind (fun c=>some (D.bl c)):=rfl
 rw [e,gq]
 simp only [bw,tu]
theorem yf {x:Nat} {l:List Nat}:iA .rF (iN x) (iL l)=some (.bl (!decide (x∈l))):=by
 have e:iA .rF (iN x) (iL l)=((intsOf (l.map iN)).bind fun y=>some (decide ((x:Int)∈y))).bind (fun c=>some (D.bl (!c))):=rfl
 rw [e,gq]
 simp only [bw,tu]
theorem gP {l:List Nat}:vp .len (iL l)=some (iN l.length):=by
 show some (D.int ((l.map iN).length:Nat))=_
 rw [af];rfl
theorem uI {l:List Nat}:vp .rev (iL l)=some (iL l.reverse):=by
 show some (D.lst (l.map iN).reverse)=_
 rw [←gz];rfl
theorem l7 {a b:List Nat} (h:a.length+b.length≤1000):iA .add (iL a) (iL b)=some (iL (a++b)):=by
 have hz:(1000:Nat)≤sizeLine:=by decide
 simp only [iL,iA]
 rw [af,af,if_pos (by omega),←bo]
def tD (g:ae):D:=.obj ["n","cells","clues"] [iN g.n,iL g.town,iL g.clues.flatten]
theorem Lz {a b:ae} (h:tD a=tD b):a.n=b.n∧a.town=b.town∧a.clues.flatten=b.clues.flatten:=by
 unfold tD at h
 injection h with _ h
 injection h with h1 h
 injection h with h2 h
 injection h with h3 _
 exact ⟨cy h1,fP h2,fP h3⟩
theorem gm (g:ae):pX (tD g) "n" = some (iN g.n):=by
 show look _ _ _=_
 unfold look
 rw [if_pos rfl]
theorem eF (g:ae):pX (tD g) "cells" = some (iL g.town):=by
 show look _ _ _=_
 unfold look
 rw [if_neg (by decide +kernel)]
 unfold look
 rw [if_pos rfl]
theorem nY (g:ae):pX (tD g) "clues" = some (iL g.clues.flatten):=by
 show look _ _ _=_
 unfold look
 rw [if_neg (by decide +kernel)]
 unfold look
 rw [if_neg (by decide +kernel)]
 unfold look
 rw [if_pos rfl]
structure cP (g:ae):Prop where
 lo:1≤g.n
 hi:g.n≤4
 town:g.town.length=g.n*g.n
 Gy:∀x∈g.town,x≤g.n
 four:g.clues.length=4
 row:∀l∈g.clues,l.length=g.n
 clue:∀l∈g.clues,∀x∈l,x≤g.n
def qK:Ss:=(.cons (.ret (.op .lt (.var 1) (.op .mul (.fld (.var 0) "n") (.fld (.var 0) "n"))) []) .nil)
def qL:Ss:=(.cons (.ret (.and (.cons (.op .lt (.var 1) (.gl "SIDES" (.int 4))) (.cons (.op .lt (.var 2) (.fld (.var 0) "n")) .nil))) []) .nil)
theorem Et {g:ae} (ok:cP g) (c:Nat):bN 2 qK [tD g,iN c]=some (.bl (decide (c < g.n*g.n))):=by
 have h:=ok.hi
 exact bc (aU (bu (ah rfl) (bu (cv (ah rfl) (gm g)) (cv (ah rfl) (gm g)) (p9 (by omega))) Ep))
theorem Eu {g:ae} (k i:Nat):bN 3 qL [tD g,iN k,iN i]=some (.bl (decide (k < 4)&&decide (i < g.n))) :=
 bc (aU (uH (bu (ah rfl) bW (Ep (b:=4))) fun _=>bu (ah rfl) (cv (ah rfl) (gm g)) Ep))
end Tn
namespace Tn
open PySem Mi
theorem jq {α:Type} (f:α→Nat) (l:List α):D.lst (l.map fun y=>iN (f y))=iL (l.map f):=by
 unfold iL;rw [a8];rfl
theorem Ew:∀{a b:List (List Nat)} {n:Nat},(∀l∈a,l.length=n)→(∀l∈b,l.length=n)→a.length=b.length→a.flatten=b.flatten→a=b
 | [],[],_,_,_,_,_=>rfl
 | [],_::_,_,_,_,h,_=>by simp at h
 | _::_,[],_,_,_,h,_=>by simp at h
 | x::a,y::b,n,h1,h2,h3,h4=>by
  rw [bz,bz] at h4
  have e:=List.append_inj h4 ((h1 x (by simp)).trans (h2 y (by simp)).symm)
  rw [e.1,Ew (fun l hl=>h1 l (by simp [hl])) (fun l hl=>h2 l (by simp [hl])) (by simpa using h3) e.2]
theorem dM {a b:ae} (ha:cP a) (hb:cP b) (h:tD a=tD b):a=b:=by
 obtain ⟨h1,h2,h3⟩:=Lz h
 have e:a.clues=b.clues:=Ew ha.row (fun l hl=>(hb.row l hl).trans h1.symm) (ha.four.trans hb.four.symm) h3
 cases a;cases b
 simp only at h1 h2 e
 subst h1 h2 e
 rfl
def k8:Ss:=(.cons (.jj (.or (.cons (.op .eq (.var 1) (.gl "ABOVE" (.int 0))) (.cons (.op .eq (.var 1) (.gl "BELOW" (.int 2))) .nil))) (.cons (.asg 3 (.comp (.nm 4) (.pB (.var 0)) .no (.op .add (.op .mul (.var 4) (.var 0)) (.var 2))) []) .nil) (.cons (.asg 3 (.comp (.nm 5) (.pB (.var 0)) .no (.op .add (.op .mul (.var 2) (.var 0)) (.var 5))) []) .nil)) (.cons (.jj (.or (.cons (.op .eq (.var 1) (.gl "RIGHT" (.int 1))) (.cons (.op .eq (.var 1) (.gl "BELOW" (.int 2))) .nil))) (.cons (.ret (.un .rev (.var 3)) []) .nil) .nil) (.cons (.ret (.var 3) []) .nil)))
theorem nZ {n:Nat} (h:n≤4):(aq n).reverse=(aq n).map fun j=>n - 1 - j:=by
 match n,h with
 | 0,_=>rfl
 | 1,_=>rfl
 | 2,_=>rfl
 | 3,_=>rfl
 | 4,_=>rfl
theorem yg {n k i:Nat} (hn:n≤4) (hi:i < 1000):bN 6 k8 [iN n,iN k,iN i]=some (iL (aZ n k i)):=by
 have cA:∀ρ:eA,ρ.length=6→fv ρ 0=some (iN n)→fv ρ 2=some (iN i)→bF (.comp (.nm 4) (.pB (.var 0)) .no (.op .add (.op .mul (.var 4) (.var 0)) (.var 2))) ρ=some (iL ((aq n).map fun y=>y*n+i)):=fun ρ hl h0 h2=>by
  refine (d9 (iF (ah h0) (rh (by omega))) (dC iN (fun y=>iN (y*n+i)) (aq n) fun y hy=>⟨_,rfl,kC,bu (bu (x:=iN y) (y:=iN n) (ah ?_) (ah ?_) (p9 ?_)) (y:=iN i) (ah ?_) d_⟩)).trans (by rw [jq])
  ·match ρ,hl with
   | [_,_,_,_,_,_],_=>rfl
  ·match ρ,hl with
   | [_,_,_,_,_,_],_=>exact h0
  ·have:=aS.mp hy;omega
  ·match ρ,hl with
   | [_,_,_,_,_,_],_=>exact h2
 have cB:∀ρ:eA,ρ.length=6→fv ρ 0=some (iN n)→fv ρ 2=some (iN i)→bF (.comp (.nm 5) (.pB (.var 0)) .no (.op .add (.op .mul (.var 2) (.var 0)) (.var 5))) ρ=some (iL ((aq n).map fun x=>i*n+x)):=fun ρ hl h0 h2=>by
  refine (d9 (iF (ah h0) (rh (by omega))) (dC iN (fun x=>iN (i*n+x)) (aq n) fun y hy=>⟨_,rfl,kC,bu (bu (x:=iN i) (y:=iN n) (ah ?_) (ah ?_) (p9 hi)) (y:=iN y) (ah ?_) d_⟩)).trans (by rw [jq])
  ·match ρ,hl with
   | [_,_,_,_,_,_],_=>exact h2
  ·match ρ,hl with
   | [_,_,_,_,_,_],_=>exact h0
  ·match ρ,hl with
   | [_,_,_,_,_,_],_=>rfl
 refine bc ?_
 have c1:∀s:List Sl,fv (bx s) 1=some (iN k)→bF (.or (.cons (.op .eq (.var 1) (.gl "ABOVE" (.int 0))) (.cons (.op .eq (.var 1) (.gl "BELOW" (.int 2))) .nil))) (bx s)=some (.bl (decide (k=0)||decide (k=2))) :=
  fun s h=>By (bu (ah h) bW (fA (b:=0))) fun _=>bu (ah h) bW (fA (b:=2))
 have c2:∀s:List Sl,fv (bx s) 1=some (iN k)→bF (.or (.cons (.op .eq (.var 1) (.gl "RIGHT" (.int 1))) (.cons (.op .eq (.var 1) (.gl "BELOW" (.int 2))) .nil))) (bx s)=some (.bl (decide (k=1)||decide (k=2))) :=
  fun s h=>By (bu (ah h) bW (fA (b:=1))) fun _=>bu (ah h) bW (fA (b:=2))
 have tail:∀(l:List Nat),cg (.cons (.jj (.or (.cons (.op .eq (.var 1) (.gl "RIGHT" (.int 1))) (.cons (.op .eq (.var 1) (.gl "BELOW" (.int 2))) .nil))) (.cons (.ret (.un .rev (.var 3)) []) .nil) .nil) (.cons (.ret (.var 3) []) .nil)) [.fz (iN n),.fz (iN k),.fz (iN i),.fz (iL l),.no,.no]=some (.rt (iL (if k=1∨k=2 then l.reverse else l))):=fun l=>by
  by_cases h:k=1∨k=2
  ·rw [if_pos h]
   exact bG ((c2 _ rfl).trans (by rcases h with h|h<;>simp [h])) (aU (fC (ah rfl) uI))
  ·rw [if_neg h]
   exact (bX ((c2 _ rfl).trans (by simp only [not_or] at h;simp [h.1,h.2]))).trans (aU (ah rfl))
 by_cases h:k=0∨k=2
 ·refine (jn (s1:=[.fz (iN n),.fz (iN k),.fz (iN i),.fz (iL ((aq n).map fun y=>y*n+i)),.no,.no]) ((c1 _ rfl).trans (by rcases h with h|h<;>simp [h])) ((cH (cA _ rfl rfl rfl)).trans rfl)).trans ((tail _).trans ?_)
  rcases h with rfl|rfl
  ·rfl
  ·congr 3
   rw [if_pos (.inr rfl),←gz,nZ hn,a8]
   rfl
 ·simp only [not_or] at h
  refine (Eo (s1:=[.fz (iN n),.fz (iN k),.fz (iN i),.fz (iL ((aq n).map fun x=>i*n+x)),.no,.no]) ((c1 _ rfl).trans (by simp [h.1,h.2])) ((cH (cB _ rfl rfl rfl)).trans rfl)).trans ((tail _).trans ?_)
  congr 3
  by_cases h1:k=1
  ·subst h1
   rw [if_pos (.inl rfl),←gz,nZ hn,a8]
   rfl
  ·rw [if_neg (by omega)]
   unfold aZ
   apply bQ
   intro j _
   match k,h,h1 with
   | k+3,_,_=>rfl
   | 0,h,_=>exact absurd rfl h.1
   | 1,_,h1=>exact absurd rfl h1
   | 2,h,_=>exact absurd rfl h.2
noncomputable def eW:List D→Option D:=kd (fun x:Nat×Nat×Nat=>[iN x.1,iN x.2.1,iN x.2.2]) (fun x=>x.1≤4∧x.2.2 < 1000) (fun x=>iL (aZ x.1 x.2.1 x.2.2))
theorem iK {n k i:Nat} (hn:n≤4) (hi:i < 1000):eW [iN n,iN k,iN i]=some (iL (aZ n k i)) :=
 b0 (x:=(n,k,i)) ⟨hn,hi⟩ fun y h _=>by
  obtain ⟨a,b,c⟩:=y
  injection h with h1 h;injection h with h2 h;injection h with h3 _
  rw [cy h1,cy h2,cy h3]
theorem z5:∀ds d,eW ds=some d→bN 6 k8 ds=some d:=fun ds d h=>by
 obtain ⟨x,rfl,hp,rfl⟩:=bf h
 exact yg hp.1 hp.2
theorem oB {n k i p:Nat} (hi:i < n) (hp:p∈aZ n k i):p < n*n:=by
 unfold aZ at hp
 rw [ba] at hp
 obtain ⟨j,hj,rfl⟩:=hp
 rw [aS] at hj
 have h1:∀a b:Nat,a < n→b < n→a*n+b < n*n:=fun a b ha hb=>by
  have:(a+1)*n≤n*n:=mv n ha
  rw [gc,gW] at this
  omega
 split
 ·exact h1 j i hj hi
 ·exact h1 i (n - 1 - j) hi (by omega)
 ·exact h1 (n - 1 - j) i (by omega) hi
 ·exact h1 i j hi hj
noncomputable def gH:Ss:=(.cons (.ret (.comp (.nm 3) (.lst (.call "line_cells" eW (.cons (.fld (.var 0) "n") (.cons (.var 1) (.cons (.var 2) .nil))))) .no (.ix (.fld (.var 0) "cells") (.var 3))) []) .nil)
def dm (g:ae) (k i:Nat):List Nat:=(aZ g.n k i).map (az g.town)
theorem vR {g:ae} {k i:Nat} (ok:cP g) (hi:i < g.n):bN 4 gH [tD g,iN k,iN i]=some (iL (dm g k i)):=by
 have:=ok.hi
 refine bc (aU ((d9 (eJ (aL (ao (cv (ah rfl) (gm g)) (ao (ah rfl) (ao (ah rfl) aJ))) (iK ok.hi (by omega))))
  (dC iN (fun p=>iN (az g.town p)) (aZ g.n k i) fun p hp=>⟨_,rfl,kC,fE (cv (ah rfl) (eF g)) (ah rfl) (jo ?_)⟩)).trans (by rw [jq];rfl)))
 rw [ok.town]
 exact oB hi hp
noncomputable def cz:List D→Option D:=kd (fun x:ae×Nat×Nat=>[tD x.1,iN x.2.1,iN x.2.2]) (fun x=>cP x.1∧x.2.2 < x.1.n) (fun x=>iL (dm x.1 x.2.1 x.2.2))
theorem eh {g:ae} {k i:Nat} (ok:cP g) (hi:i < g.n):cz [tD g,iN k,iN i]=some (iL (dm g k i)) :=
 b0 (x:=(g,k,i)) ⟨ok,hi⟩ fun y h hy=>by
  obtain ⟨a,b,c⟩:=y
  injection h with h1 h;injection h with h2 h;injection h with h3 _
  rw [dM hy.1 ok h1,cy h2,cy h3]
theorem yh:∀ds d,cz ds=some d→bN 4 gH ds=some d:=fun ds d h=>by
 obtain ⟨x,rfl,hp,rfl⟩:=bf h
 exact vR hp.1 hp.2
end Tn
namespace Tn
open PySem Mi
theorem iM:∀{c:List (List Nat)} {n k i:Nat},(∀l∈c,l.length=n)→k < c.length→i < n→k*n+i < c.flatten.length∧c.flatten.getD (k*n+i) 0=(c.getD k []).getD i 0
 | [],_,_,_,_,h,_=>by simp at h
 | x::c,n,0,i,hc,_,hi=>by
  have hx:x.length=n:=hc x (by simp)
  rw [bz,kF,cn]
  refine ⟨by rw [ax];omega,?_⟩
  rw [aj,i5 (by omega),←aj]
  rfl
 | x::c,n,k+1,i,hc,hk,hi=>by
  have hx:x.length=n:=hc x (by simp)
  obtain ⟨h1,h2⟩:=iM (c:=c) (n:=n) (k:=k) (i:=i) (fun l hl=>hc l (by simp [hl])) (by simpa using hk) hi
  have e:(k+1)*n+i=x.length+(k*n+i):=by rw [gc,gW,hx];omega
  rw [bz,e]
  refine ⟨by rw [ax];omega,?_⟩
  rw [aj,iJ (by omega),gG,←aj,h2]
  rfl
def mJ:Ss:=(.cons (.ret (.ix (.fld (.var 0) "clues") (.op .add (.op .mul (.var 1) (.fld (.var 0) "n")) (.var 2))) []) .nil)
theorem z6 {g:ae} {k i:Nat} (ok:cP g) (hk:k < 4) (hi:i < g.n):bN 3 mJ [tD g,iN k,iN i]=some (iN (a6 g.clues k i)):=by
 obtain ⟨h1,h2⟩:=iM ok.row (show k < g.clues.length by rw [ok.four];exact hk) hi
 refine bc (aU (fE (cv (ah rfl) (nY g)) (bu (bu (ah rfl) (cv (ah rfl) (gm g)) (p9 (by omega))) (ah rfl) d_) ((jo h1).trans ?_)))
 rw [h2];rfl
noncomputable def cf:List D→Option D:=kd (fun x:ae×Nat×Nat=>[tD x.1,iN x.2.1,iN x.2.2]) (fun x=>cP x.1∧x.2.1 < 4∧x.2.2 < x.1.n) (fun x=>iN (a6 x.1.clues x.2.1 x.2.2))
theorem dZ {g:ae} {k i:Nat} (ok:cP g) (hk:k < 4) (hi:i < g.n):cf [tD g,iN k,iN i]=some (iN (a6 g.clues k i)) :=
 b0 (x:=(g,k,i)) ⟨ok,hk,hi⟩ fun y h hy=>by
  obtain ⟨a,b,c⟩:=y
  injection h with h1 h;injection h with h2 h;injection h with h3 _
  rw [dM hy.1 ok h1,cy h2,cy h3]
theorem Cm:∀ds d,cf ds=some d→bN 3 mJ ds=some d:=fun ds d h=>by
 obtain ⟨x,rfl,hp,rfl⟩:=bf h
 exact z6 hp.1 hp.2.1 hp.2.2
def f_:Ss:=(.cons (.ret (.un .len (.comp (.nm 1) (.lst (.fld (.var 0) "cells")) (.yes (.op .gt (.var 1) (.int 0))) (.var 1))) []) .nil)
theorem Ex (l:List Nat):(l.filter fun x=>decide (0 < x)).length=aB l:=by
 unfold aB
 congr 1
 apply cV
 intro x _
 cases x<;>rfl
theorem uJ {g:ae}:bN 2 f_ [tD g]=some (iN (aB g.town)):=by
 refine bc (aU (fC ((d9 (eJ (cv (ah rfl) (eF g))) (g8 iN (fun x=>decide (0 < x)) iN g.town fun x hx=>⟨_,rfl,oz (bu (ah rfl) bb (i9 (b:=0))),fun _=>ah rfl⟩)).trans rfl) ?_))
 exact (gP (l:=g.town.filter fun x=>decide (0 < x))).trans (by rw [Ex])
noncomputable def fj:List D→Option D:=kd (fun x:ae=>[tD x]) (fun x=>True) (fun x=>iN (aB x.town))
theorem kK {g:ae}:fj [tD g]=some (iN (aB g.town)) :=
 b0 (x:=g) trivial fun y h hy=>by
  injection h with h1 h
  rw [(Lz h1).2.1]
theorem vS:∀ds d,fj ds=some d→bN 2 f_ ds=some d:=fun ds d h=>by
 obtain ⟨x,rfl,hp,rfl⟩:=bf h
 exact uJ
def kL:Ss:=(.cons (.jj (.op .gt (.var 3) (.var 1)) (.cons (.asg 1 (.var 3) []) (.cons (.aug 2 .add (.int 1)) .nil)) .nil) .nil)
def k9:Ss:=(.cons (.asg 1 (.int 0) []) (.cons (.asg 2 (.int 0) []) (.cons (.jk (.nm 3) (.lst (.var 0)) [] kL) (.cons (.ret (.var 2) []) .nil))))
theorem uK:∀(l:List Nat) (h m:Nat),(l.foldl (fun (b:Nat×Nat) a=>if b.1 < a then (a,b.2+1) else b) (h,m)).2=m+dP h l
 | [],h,m=>rfl
 | x::l,h,m=>by
  rw [b9,dP]
  by_cases hx:h < x
  ·simp only [hx,if_true]
   rw [uK l x (m+1)];omega
  ·simp only [hx,if_false]
   rw [uK l h m]
theorem yi (l:List Nat):bN 4 k9 [iL l]=some (iN (dP 0 l)):=by
 obtain ⟨s',h,x',rfl⟩:=dD (t:=.nm 3) (body:=cg kL) iN (fun (b:Nat×Nat) a=>if b.1 < a then (a,b.2+1) else b)
  (fun b _ s=>∃x,s=[.fz (iL l),.fz (iN b.1),.fz (iN b.2),x])
  (fun b a r s ⟨x,hs⟩=>by
   subst hs
   refine ⟨_,[.fz (iL l),.fz (iN (if b.1 < a then (a,b.2+1) else b).1),.fz (iN (if b.1 < a then (a,b.2+1) else b).2),.fz (iN a)],rfl,?_,_,rfl⟩
   by_cases ha:b.1 < a
   ·rw [if_pos ha]
    exact (jn ((bu (ah rfl) (ah rfl) i9).trans (by rw [decide_eq_true ha])) ((cH (ah rfl)).trans ((r6 bb rfl).trans rfl))).trans rfl
   ·rw [if_neg ha]
    exact (bX ((bu (ah rfl) (ah rfl) i9).trans (by rw [decide_eq_false ha]))).trans rfl) l (0,0) [.fz (iL l),.fz (iN 0),.fz (iN 0),.no] ⟨.no,rfl⟩
 have e:=uK l 0 0
 rw [cn] at e
 rw [e] at h
 exact bc ((cH bb).trans ((cH bb).trans ((eV (eJ (ah rfl)) h).trans (aU (ah rfl)))))
noncomputable def di:List D→Option D:=kd (fun x:List Nat=>[iL x]) (fun x=>True) (fun x=>iN (dP 0 x))
theorem gI (l:List Nat):di [iL l]=some (iN (dP 0 l)) :=
 b0 (x:=l) trivial fun y h hy=>by
  injection h with h1 h
  rw [fP h1]
theorem z7:∀ds d,di ds=some d→bN 4 k9 ds=some d:=fun ds d h=>by
 obtain ⟨x,rfl,hp,rfl⟩:=bf h
 exact yi x
def oC:Ss:=(.cons (.aug 1 .bor (.op .shl (.int 1) (.op .sub (.var 2) (.int 1)))) .nil)
def qM:Ss:=(.cons (.asg 1 (.int 0) []) (.cons (.jk (.nm 2) (.lst (.var 0)) [] oC) (.cons (.ret (.var 1) []) .nil)))
theorem LA (s k:Nat):(if s.testBit k then s else s+2 ^ k)=s ||| 2 ^ k:=by
 by_cases h:s.testBit k=true
 ·rw [if_pos h]
  apply ub
  intro j
  rw [ua,gy]
  by_cases hj:k=j
  ·subst hj;simp [h]
  ·simp [hj]
 ·rw [if_neg h]
  have h0:s &&& 2 ^ k=0:=Wy.and_zero.mpr fun j ⟨h1,h2⟩=>by
   rw [gy,decide_eq_true_eq] at h2
   subst h2
   exact h h1
  have e:=PyProof.Rows.nat_or_add_and s (2 ^ k)
  omega
theorem Ib {k:Nat} (h:k≤1000):iA .shl (.int 1) (.int (k:Int))=some (iN (2 ^ k)):=by
 simp only [iA]
 rw [if_pos ⟨by omega,by omega,by decide⟩]
 have e:(1:Int)*2 ^ ((k:Int)).toNat=((2 ^ k:Nat):Int):=by
  rw [Int.one_mul,iD,PyProof.Rows.two_pow_cast]
 rw [e];rfl
theorem LB {a b:Nat}:xS .bor (some (iN a)) (iN b)=some (iN (a ||| b)):=by
 show some (D.int (Builtin.bitOr (a:Int) b))=_
 rw [Bits.D5 (by omega) (by omega)];rfl
theorem Ey (l:List Nat) (hl:∀h∈l,1≤h∧h≤1000):bN 3 qM [iL l]=some (iN (kS l)):=by
 obtain ⟨s',h,_,x',rfl⟩:=dD (t:=.nm 2) (body:=cg oC) iN (fun (s:Nat) h=>if s.testBit (h - 1) then s else s+2 ^ (h - 1))
  (fun b r s=>(∀h∈r,1≤h∧h≤1000)∧∃x,s=[.fz (iL l),.fz (iN b),x])
  (fun b a r s ⟨hr,x,hs⟩=>by
   subst hs
   obtain ⟨h1,h2⟩:=hr a (by simp)
   refine ⟨_,[.fz (iL l),.fz (iN (b ||| 2 ^ (a - 1))),.fz (iN a)],rfl,?_,fun h hh=>hr h (by simp [hh]),_,by rw [LA]⟩
   have e:(a:Int) - 1=((a - 1:Nat):Int):=by omega
   exact (r6 (bu bb ((bu (ah rfl) bb rfl).trans (by rw [e])) (Ib (by omega))) LB).trans rfl) l 0 [.fz (iL l),.fz (iN 0),.no] ⟨hl,.no,rfl⟩
 exact bc ((cH bb).trans ((eV (eJ (ah rfl)) h).trans (aU (ah rfl))))
noncomputable def n0:List D→Option D:=kd (fun x:List Nat=>[iL x]) (fun x=>∀h∈x,1≤h∧h≤1000) (fun x=>iN (kS x))
theorem yj {l:List Nat} (hl:∀h∈l,1≤h∧h≤1000):n0 [iL l]=some (iN (kS l)) :=
 b0 (x:=l) hl fun y h hy=>by
  injection h with h1 h
  rw [fP h1]
theorem Gz:∀ds d,n0 ds=some d→bN 3 qM ds=some d:=fun ds d h=>by
 obtain ⟨x,rfl,hp,rfl⟩:=bf h
 exact Ey x hp
end Tn
namespace Tn
open PySem Mi
def vC:Ss:=(.cons (.ext 3 (.comp (.nm 5) (.D_ (.int 1) (.op .add (.var 0) (.int 1))) (.yes (.op .rF (.var 5) (.var 4))) (.op .add (.var 4) (.lst (.cons (.var 5) .nil)))) []) .nil)
def vD:Ss:=(.cons (.own 3 (.lst .nil) []) (.cons (.jk (.nm 4) (.lst (.var 1)) [] vC) (.cons (.asg 1 (.var 3) [3]) .nil)))
def kD:Ss:=(.cons (.asg 1 (.lst (.cons (.lst .nil) .nil)) []) (.cons (.jk (.nm 2) (.pB (.var 0)) [] vD) (.cons (.ret (.var 1) []) .nil)))
def perms (n:Nat):List (List Nat):=Kh321.perms n (k0 n)
theorem Ez:bN 6 kD [iN 1]=some (g9 (perms 1)):=by rfl
theorem EA:bN 6 kD [iN 2]=some (g9 (perms 2)):=by rfl
theorem EB:bN 6 kD [iN 3]=some (g9 (perms 3)):=by rfl
theorem EC:bN 6 kD [iN 4]=some (g9 (perms 4)):=by rfl
theorem GA {n:Nat} (h:1≤n) (h4:n≤4):bN 6 kD [iN n]=some (g9 (perms n)):=by
 match n,h,h4 with
 | 1,_,_=>exact Ez
 | 2,_,_=>exact EA
 | 3,_,_=>exact EB
 | 4,_,_=>exact EC
noncomputable def tw:List D→Option D:=kd (fun x:Nat=>[iN x]) (fun x=>1≤x∧x≤4) (fun x=>g9 (perms x))
theorem JF {n:Nat} (h:1≤n) (h4:n≤4):tw [iN n]=some (g9 (perms n)) :=
 b0 (x:=n) ⟨h,h4⟩ fun y h hy=>by
  injection h with h1 h
  rw [cy h1]
theorem JG:∀ds d,tw ds=some d→bN 6 kD ds=some d:=fun ds d h=>by
 obtain ⟨x,rfl,hp,rfl⟩:=bf h
 exact GA hp.1 hp.2
theorem LC {n:Nat} (h:1≤n) (h4:n≤4):∀r∈perms n,r.length=n∧∀x∈r,1≤x∧x≤n:=by
 match n,h,h4 with
 | 1,_,_=>decide
 | 2,_,_=>decide
 | 3,_,_=>decide
 | 4,_,_=>decide
theorem JH {n:Nat} (h:1≤n) (h4:n≤4):(perms n).length≤24:=by
 match n,h,h4 with
 | 1,_,_=>decide
 | 2,_,_=>decide
 | 3,_,_=>decide
 | 4,_,_=>decide
def r8:Ss:=(.cons (.jj (.and (.cons (.op .gt (.var 3) (.int 0)) (.cons (.op .ne (.var 3) (.var 2)) .nil))) (.cons (.ret (.bl false) []) .nil) .nil) .nil)
def xf:Ss:=(.cons (.jk (.tp [2,3]) (.zip (.var 0) (.var 1)) [] r8) (.cons (.ret (.bl true) []) .nil))
theorem LD:∀(a b:List Nat),rW (a.map iN) (b.map iN)=(a.zip b).map fun x=>.tup [iN x.1,iN x.2]
 | [],_=>rfl
 | _::_,[]=>rfl
 | x::a,y::b=>by
  rw [aN,aN,rW,LD a b,vK,aN]
def uL (old l:List Nat):Bool:=(old.zip l).all fun x=>x.1 == 0||x.1 == x.2
theorem JI (h t:List Nat):((h.zip t).findSome? fun x=>if (decide (0 < x.2)&&!decide (x.2=x.1))=true then some (D.bl false) else none)=if uL t h=true then none else some (D.bl false):=by
 induction h generalizing t with
 | nil=>cases t<;>rfl
 | cons a h ih =>
  cases t with
  | nil=>rfl
  | cons b t =>
   have ih:=ih t
   unfold uL at ih ⊢
   rw [vK,c6,vK,dk,ih]
   by_cases hb:b=0
   ·subst hb
    rfl
   ·have hp:0 < b:=by omega
    by_cases Ej:b=a
    ·subst Ej
     have e:(b == 0||b == b)=true:=by rw [beq_self_eq_true,Bool.or_true]
     rw [e,ji]
     simp [hp]
    ·simp [hp,Ej,hb]
theorem JJ (h t:List Nat):bN 4 xf [iL h,iL t]=some (.bl (uL t h)):=by
 have key:=qI (t:=.tp [2,3]) (body:=cg r8) (fun x:Nat×Nat=>.tup [iN x.1,iN x.2]) (fun s=>∃x y,s=[.fz (iL h),.fz (iL t),x,y])
  (fun x=>if (decide (0 < x.2)&&!decide (x.2=x.1))=true then some (D.bl false) else none) (h.zip t) (by
   rintro s ⟨x,y,rfl⟩ a ha
   refine ⟨_,rfl,?_⟩
   have ec:bF (.and (.cons (.op .gt (.var 3) (.int 0)) (.cons (.op .ne (.var 3) (.var 2)) .nil))) (bx [.fz (iL h),.fz (iL t),.fz (iN a.1),.fz (iN a.2)])=some (.bl (decide (0 < a.2)&&!decide (a.2=a.1))) :=
    uH (bu (ah rfl) bb (i9 (b:=0))) fun _=>bu (ah rfl) (ah rfl) Er
   by_cases hc:(decide (0 < a.2)&&!decide (a.2=a.1))=true
   ·rw [if_pos hc]
    rw [hc] at ec
    exact bG ec (aU JE)
   ·rw [if_neg hc]
    rw [pK] at hc
    rw [hc] at ec
    exact ⟨_,(bX ec).trans rfl,_,_,rfl⟩) [.fz (iL h),.fz (iL t),.no,.no] ⟨.no,.no,rfl⟩
 rw [JI] at key
 have ei:pC (.zip (.var 0) (.var 1)) (view (freeze [] [.fz (iL h),.fz (iL t),.no,.no]))=some ((h.zip t).map fun x=>.tup [iN x.1,iN x.2]):=(Q7 (ah rfl) (ah rfl)).trans (by rw [LD])
 cases hh:uL t h with
 | true =>
  rw [hh,if_pos rfl] at key
  obtain ⟨s',h1,x,y,rfl⟩:=key
  exact bc ((eV ei h1).trans (aU JE))
 | false =>
  rw [hh,if_neg aQ] at key
  exact bc (tm ei key)
noncomputable def xg:List D→Option D:=kd (fun x:List Nat×List Nat=>[iL x.1,iL x.2]) (fun x=>True) (fun x=>.bl (uL x.2 x.1))
theorem LF (h t:List Nat):xg [iL h,iL t]=some (.bl (uL t h)) :=
 b0 (x:=(h,t)) trivial fun y e hy=>by
  obtain ⟨a,b⟩:=y
  injection e with h1 e;injection e with h2 e
  rw [fP h1,fP h2]
theorem LG:∀ds d,xg ds=some d→bN 4 xf ds=some d:=fun ds d h=>by
 obtain ⟨x,rfl,hp,rfl⟩:=bf h
 exact JJ x.1 x.2
noncomputable def Cn:Ss:=(.cons (.jj (.and (.cons (.op .gt (.var 1) (.int 0)) (.cons (.op .ne (.call "count_seen" di (.cons (.var 0) .nil)) (.var 1)) .nil))) (.cons (.ret (.bl false) []) .nil) .nil) (.cons (.ret (.or (.cons (.op .eq (.var 2) (.int 0)) (.cons (.op .eq (.call "count_seen" di (.cons (.un .rev (.var 0)) .nil)) (.var 2)) .nil))) []) .nil))
def vE (l:List Nat) (first last:Nat):Bool:=(first == 0||dP 0 l == first)&&(last == 0||dP 0 l.reverse == last)
theorem LH (l:List Nat) (a b:Nat):bN 3 Cn [iL l,iN a,iN b]=some (.bl (vE l a b)):=by
 have ec:bF (.and (.cons (.op .gt (.var 1) (.int 0)) (.cons (.op .ne (.call "count_seen" di (.cons (.var 0) .nil)) (.var 1)) .nil))) (bx [.fz (iL l),.fz (iN a),.fz (iN b)])=some (.bl (decide (0 < a)&&!decide (dP 0 l=a))) :=
  uH (bu (ah rfl) bb (i9 (b:=0))) fun _=>bu (aL (ao (ah rfl) aJ) (gI l)) (ah rfl) Er
 have e2:bF (.or (.cons (.op .eq (.var 2) (.int 0)) (.cons (.op .eq (.call "count_seen" di (.cons (.un .rev (.var 0)) .nil)) (.var 2)) .nil))) (view (freeze [] [.fz (iL l),.fz (iN a),.fz (iN b)]))=some (.bl (decide (b=0)||decide (dP 0 l.reverse=b))) :=
  By (bu (ah rfl) bb (fA (b:=0))) fun _=>bu (aL (ao (fC (ah rfl) uI) aJ) (gI l.reverse)) (ah rfl) fA
 refine bc ?_
 by_cases hc:(decide (0 < a)&&!decide (dP 0 l=a))=true
 ·rw [hc] at ec
  refine (bG ec (aU JE)).trans ?_
  rw [ag,decide_eq_true_eq,eX,decide_eq_false_iff_not] at hc
  have h0:¬a=0:=by omega
  simp [vE,h0,hc.2]
 ·rw [pK] at hc
  rw [hc] at ec
  refine (bX ec).trans ((aU e2).trans ?_)
  rw [kT,decide_eq_false_iff_not,Bool.not_eq_false',decide_eq_true_eq] at hc
  congr 3
  unfold vE
  have:(a == 0||dP 0 l == a)=true:=by
   rcases hc with h|h
   ·have:a=0:=by omega
    simp [this]
   ·simp [h]
  rw [this,ji]
  rfl
noncomputable def uM:List D→Option D:=kd (fun x:List Nat×Nat×Nat=>[iL x.1,iN x.2.1,iN x.2.2]) (fun x=>True) (fun x=>.bl (vE x.1 x.2.1 x.2.2))
theorem Ic (l:List Nat) (a b:Nat):uM [iL l,iN a,iN b]=some (.bl (vE l a b)) :=
 b0 (x:=(l,a,b)) trivial fun y e hy=>by
  obtain ⟨p,q,r⟩:=y
  injection e with h1 e;injection e with h2 e;injection e with h3 e
  rw [fP h1,cy h2,cy h3]
theorem N7:∀ds d,uM ds=some d→bN 3 Cn ds=some d:=fun ds d h=>by
 obtain ⟨x,rfl,hp,rfl⟩:=bf h
 exact LH x.1 x.2.1 x.2.2
theorem iZ (g:ae) (k i:Nat):(dm g k i).length=g.n:=by
 unfold dm aZ
 rw [af,af,aP]
def jf (g:ae) (k i:Nat):List (List Nat):=gx g.n g.town g.clues k i
theorem Ie (g:ae) (k i:Nat):jf g k i=(perms (dm g k i).length).filter (Kh321.goes (dm g k i) (a6 g.clues k i) (a6 g.clues (Kh321.across k) i)):=by
 rw [iZ];rfl
noncomputable def mK:Ss:=(.cons (.asg 3 (.call "line_towers" cz (.cons (.var 0) (.cons (.var 1) (.cons (.var 2) .nil)))) []) (.cons (.asg 4 (.call "line_clue" cf (.cons (.var 0) (.cons (.var 1) (.cons (.var 2) .nil)))) []) (.cons (.asg 5 (.call "line_clue" cf (.cons (.var 0) (.cons (.op .mod (.op .add (.var 1) (.int 2)) (.gl "SIDES" (.int 4))) (.cons (.var 2) .nil)))) []) (.cons (.ret (.comp (.nm 6) (.lst (.call "orders" tw (.cons (.fld (.var 0) "n") .nil))) (.yes (.and (.cons (.call "holds" xg (.cons (.var 6) (.cons (.var 3) .nil))) (.cons (.call "fits" uM (.cons (.var 6) (.cons (.var 4) (.cons (.var 5) .nil)))) .nil)))) (.var 6)) []) .nil))))
theorem z8 {g:ae} {k i:Nat} (ok:cP g) (hk:k < 4) (hi:i < g.n):bN 7 mK [tD g,iN k,iN i]=some (g9 (jf g k i)):=by
 have hm:(k+2) % 4 < 4:=wM _ (by decide)
 have em:iA .mod (iN (k+2)) (.int 4)=some (iN ((k+2) % 4)):=by
  show (if (0:Int) < 4 then some (D.int (((k+2:Nat):Int) % 4)) else none)=_
  rw [if_pos (by decide)]
  rfl
 refine bc ((cH (aL (ao (ah rfl) (ao (ah rfl) (ao (ah rfl) aJ))) (eh ok hi))).trans ((cH (aL (ao (ah rfl) (ao (ah rfl) (ao (ah rfl) aJ))) (dZ ok hk hi))).trans ((cH (aL (ao (ah rfl) (ao (bu (bu (ah rfl) bb (d_ (b:=2))) bW em) (ao (ah rfl) aJ))) (dZ ok hm hi))).trans (aU ((d9 (eJ (aL (ao (cv (ah rfl) (gm g)) aJ) (JF ok.lo ok.hi))) (g8 iL (Kh321.goes (dm g k i) (a6 g.clues k i) (a6 g.clues (Kh321.across k) i)) iL (perms g.n) fun x hx=>⟨_,rfl,?_,fun _=>ah rfl⟩)).trans rfl)))))
 exact (oz (uH (aL (ao (ah rfl) (ao (ah rfl) aJ)) (LF x (dm g k i))) fun _=>aL (ao (ah rfl) (ao (ah rfl) (ao (ah rfl) aJ))) (Ic x (a6 g.clues k i) (a6 g.clues ((k+2) % 4) i)))).trans rfl
noncomputable def g_:List D→Option D:=kd (fun x:ae×Nat×Nat=>[tD x.1,iN x.2.1,iN x.2.2]) (fun x=>cP x.1∧x.2.1 < 4∧x.2.2 < x.1.n) (fun x=>g9 (jf x.1 x.2.1 x.2.2))
theorem oE {g:ae} {k i:Nat} (ok:cP g) (hk:k < 4) (hi:i < g.n):g_ [tD g,iN k,iN i]=some (g9 (jf g k i)) :=
 b0 (x:=(g,k,i)) ⟨ok,hk,hi⟩ fun y h hy=>by
  obtain ⟨a,b,c⟩:=y
  injection h with h1 h;injection h with h2 h;injection h with h3 _
  rw [dM hy.1 ok h1,cy h2,cy h3]
theorem Co:∀ds d,g_ ds=some d→bN 7 mK ds=some d:=fun ds d h=>by
 obtain ⟨x,rfl,hp,rfl⟩:=bf h
 exact z8 hp.1 hp.2.1 hp.2.2
theorem tE {g:ae} (ok:cP g) {k i:Nat}:(∀r∈jf g k i,Wy.Row g.n r)∧(jf g k i).length≤24:=by
 rw [Ie,iZ]
 refine ⟨fun r hr=>LC ok.lo ok.hi r (cN.mp hr).1,aO (fM _ _) (JH ok.lo ok.hi)⟩
end Tn
namespace Tn
open PySem Mi
theorem GB {n i:Nat} (h1:1≤n) (h4:n≤4) (hi:i < n):sliceRange ((min i (n*n):Nat):Int) ((n*n:Nat):Int) (n:Int)=aZ n 0 i:=by
 match n,i,h1,h4,hi with
 | 1,0,_,_,_=>rfl
 | 2,0,_,_,_=>rfl
 | 2,1,_,_,_=>rfl
 | 3,0,_,_,_=>rfl
 | 3,1,_,_,_=>rfl
 | 3,2,_,_,_=>rfl
 | 4,0,_,_,_=>rfl
 | 4,1,_,_,_=>rfl
 | 4,2,_,_,_=>rfl
 | 4,3,_,_,_=>rfl
theorem ED {w:List Nat}:∀{l:List Nat},(∀p∈l,p < w.length)→(l.filterMap fun j=>(w.map iN)[j]?)=(l.map (az w)).map iN
 | [],_=>rfl
 | p::l,h=>by
  have hp:=h p (by simp)
  rw [dW,b8,au hp,aN,aN,ED fun q hq=>h q (by simp [hq])]
  have:az w p=w[p]:=by
   unfold az
   rw [aj,au hp];rfl
  rw [this];rfl
theorem N8 {w:List Nat} {n i:Nat} (h1:1≤n) (h4:n≤4) (hi:i < n) (hw:w.length=n*n):Ea (iL w) (iN i) (iN n)=some (iL ((aZ n 0 i).map (az w))):=by
 have hz:(1000:Nat)≤sizeLine:=by decide
 have e:pick (w.map iN) i n=((aZ n 0 i).map (az w)).map iN:=by
  unfold pick
  rw [af,hw,GB h1 h4 hi]
  exact ED fun p hp=>by rw [hw];exact oB hi hp
 have hl:(aZ n 0 i).length=n:=by unfold aZ;rw [af,aP]
 show (if 0 < n∧(pick (w.map iN) i n).length≤sizeLine then some (D.lst (pick (w.map iN) i n)) else none)=_
 rw [e,if_pos ⟨by omega,by rw [af,af,hl];omega⟩]
 rfl
noncomputable def jU:Ss:=(.cons (.jj (.not (.call "fits" uM (.cons (.step (.var 1) (.var 3) (.var 2)) (.cons (.call "line_clue" cf (.cons (.var 0) (.cons (.gl "ABOVE" (.int 0)) (.cons (.var 3) .nil)))) (.cons (.call "line_clue" cf (.cons (.var 0) (.cons (.gl "BELOW" (.int 2)) (.cons (.var 3) .nil)))) .nil))))) (.cons (.ret (.bl false) []) .nil) .nil) .nil)
noncomputable def kf:Ss:=(.cons (.asg 2 (.fld (.var 0) "n") []) (.cons (.jk (.nm 3) (.pB (.var 2)) [] jU) (.cons (.ret (.bl true) []) .nil)))
def Cp (g:ae) (w:List Nat) (i:Nat):Bool:=vE ((aZ g.n 0 i).map (az w)) (a6 g.clues 0 i) (a6 g.clues 2 i)
theorem EE {α:Type} (p:α→Bool) (d:D):∀l:List α,(l.findSome? fun a=>if p a=true then none else some d)=if l.all p=true then none else some d
 | []=>rfl
 | a::l=>by
  rw [c6,dk,EE p d l]
  cases h:p a<;>rfl
theorem vT {g:ae} {w:List Nat} (ok:cP g) (hw:w.length=g.n*g.n):bN 4 kf [tD g,iL w]=some (.bl ((aq g.n).all (Cp g w))):=by
 have hn:=ok.hi
 have key:=qI (t:=.nm 3) (body:=cg jU) iN (fun s=>∃x,s=[.fz (tD g),.fz (iL w),.fz (iN g.n),x])
  (fun i=>if Cp g w i=true then none else some (D.bl false)) (aq g.n) (by
   rintro s ⟨x,rfl⟩ i hi
   rw [aS] at hi
   refine ⟨_,rfl,?_⟩
   have ec:bF (.not (.call "fits" uM (.cons (.step (.var 1) (.var 3) (.var 2)) (.cons (.call "line_clue" cf (.cons (.var 0) (.cons (.gl "ABOVE" (.int 0)) (.cons (.var 3) .nil)))) (.cons (.call "line_clue" cf (.cons (.var 0) (.cons (.gl "BELOW" (.int 2)) (.cons (.var 3) .nil)))) .nil))))) (bx [.fz (tD g),.fz (iL w),.fz (iN g.n),.fz (iN i)])=some (.bl !(Cp g w i)) :=
    vB (aL (ao (Q5 (ah rfl) (ah rfl) (ah rfl) (N8 ok.lo ok.hi hi hw)) (ao (aL (ao (ah rfl) (ao bW (ao (ah rfl) aJ))) (dZ (k:=0) ok (by decide) hi)) (ao (aL (ao (ah rfl) (ao bW (ao (ah rfl) aJ))) (dZ (k:=2) ok (by decide) hi)) aJ))) (Ic _ _ _))
   cases hc:Cp g w i with
   | true =>
    rw [hc] at ec
    exact ⟨_,(bX ec).trans rfl,_,rfl⟩
   | false =>
    rw [hc] at ec
    exact bG ec (aU JE)) [.fz (tD g),.fz (iL w),.fz (iN g.n),.no] ⟨.no,rfl⟩
 rw [EE] at key
 have ei:pC (.pB (.var 2)) (view (freeze [] [.fz (tD g),.fz (iL w),.fz (iN g.n),.no]))=some ((aq g.n).map iN):=iF (ah rfl) (rh (by omega))
 cases hh:(aq g.n).all (Cp g w) with
 | true =>
  rw [hh,if_pos rfl] at key
  obtain ⟨s',h1,x,rfl⟩:=key
  exact bc ((cH (cv (ah rfl) (gm g))).trans ((eV ei h1).trans (aU JE)))
 | false =>
  rw [hh,if_neg aQ] at key
  exact bc ((cH (cv (ah rfl) (gm g))).trans (tm ei key))
noncomputable def iO:List D→Option D:=kd (fun x:ae×List Nat=>[tD x.1,iL x.2]) (fun x=>cP x.1∧x.2.length=x.1.n*x.1.n) (fun x=>.bl ((aq x.1.n).all (Cp x.1 x.2)))
theorem yk {g:ae} {w:List Nat} (ok:cP g) (hw:w.length=g.n*g.n):iO [tD g,iL w]=some (.bl ((aq g.n).all (Cp g w))) :=
 b0 (x:=(g,w)) ⟨ok,hw⟩ fun y h hy=>by
  obtain ⟨a,b⟩:=y
  injection h with h1 h;injection h with h2 h
  rw [dM hy.1 ok h1,fP h2]
theorem yl:∀ds d,iO ds=some d→bN 4 kf ds=some d:=fun ds d h=>by
 obtain ⟨x,rfl,hp,rfl⟩:=bf h
 exact vT hp.1 hp.2
theorem LI {n i:Nat} (h4:n≤4):aZ n 2 i=(aZ n 0 i).reverse:=by
 unfold aZ
 rw [←gz,nZ h4,a8];rfl
theorem N9 {g:ae} (ok:cP g) (w:List Nat):(aq g.n).all (Cp g w)=ud g.n g.clues w:=by
 unfold ud
 congr 1
 funext i
 unfold Cp vE dB
 rw [LI ok.hi,gz]
def jr:Ss:=(.cons (.aug 1 .bor (.op .shl (.int 1) (.op .sub (.op .add (.op .mul (.var 2) (.un .len (.var 0))) (.var 3)) (.int 1)))) .nil)
def js:Ss:=(.cons (.asg 1 (.int 0) []) (.cons (.jk (.tp [2,3]) (.enum (.var 0)) [] jr) (.cons (.ret (.var 1) []) .nil)))
theorem tF:∀(l:List Nat) (k:Nat),nU k (l.map iN)=(l.zipIdx k).map fun p=>.tup [iN p.2,iN p.1]
 | [],_=>rfl
 | x::l,k=>by
  rw [aN,nU,tF l (k+1),pL,aN];rfl
theorem Bz (n:Nat):∀(r:List Nat) (x m:Nat),(r.zipIdx x).foldl (fun m p=>m ||| 2 ^ (p.2*n+p.1 - 1)) m=Wy.markFrom n x r m
 | [],_,_=>rfl
 | h::r,x,m=>by
  rw [pL,b9,Bz n r (x+1),Wy.markFrom]
theorem LJ {n:Nat}:∀{r:List Nat} {x:Nat},(∀h∈r,1≤h∧h≤n)→x+r.length≤n→∀p∈r.zipIdx x,(1≤p.1∧p.1≤n)∧p.2 < n
 | [],_,_,_,p,hp=>by simp at hp
 | h::r,x,h1,h2,p,hp=>by
  rw [pL,aF] at hp
  rcases hp with rfl|hp
  ·exact ⟨h1 h (by simp),by simp at h2;show x < n;omega⟩
  ·exact LJ (fun g hg=>h1 g (by simp [hg])) (by simp at h2;omega) p hp
theorem uN {n:Nat} {r:List Nat} (h4:n≤4) (hr:Wy.Row n r):bN 4 js [iL r]=some (iN (Wy.mark n r)):=by
 obtain ⟨s',h,_,x,y,rfl⟩:=dD (t:=.tp [2,3]) (body:=cg jr) (fun p:Nat×Nat=>.tup [iN p.2,iN p.1]) (fun (m:Nat) p=>m ||| 2 ^ (p.2*n+p.1 - 1))
  (fun b l s=>(∀p∈l,(1≤p.1∧p.1≤n)∧p.2 < n)∧∃x y,s=[.fz (iL r),.fz (iN b),x,y])
  (fun b a l s ⟨hl,x,y,hs⟩=>by
   subst hs
   obtain ⟨⟨h1,h2⟩,h3⟩:=hl a (by simp)
   refine ⟨_,[.fz (iL r),.fz (iN (b ||| 2 ^ (a.2*n+a.1 - 1))),.fz (iN a.2),.fz (iN a.1)],rfl,?_,fun h hh=>hl h (by simp [hh]),_,_,rfl⟩
   have hb:a.2*n≤4*4:=kG (by omega) h4
   have e:((a.2*n+a.1:Nat):Int) - 1=((a.2*n+a.1 - 1:Nat):Int):=by omega
   have el:vp .len (iL r)=some (iN n):=by rw [gP,hr.1]
   exact (r6 (bu bb ((bu (bu (bu (ah rfl) (fC (ah rfl) el) (p9 (by omega))) (ah rfl) d_) bb rfl).trans (by rw [←e])) (Ib (by omega))) LB).trans rfl) (r.zipIdx 0) 0 [.fz (iL r),.fz (iN 0),.no,.no] ⟨LJ hr.2 (by rw [hr.1];omega),.no,.no,rfl⟩
 rw [Bz] at h
 have ei:pC (.enum (.var 0)) (view (freeze [] [.fz (iL r),.fz (iN 0),.no,.no]))=some ((r.zipIdx 0).map fun p=>.tup [iN p.2,iN p.1]):=(w_ (ah rfl)).trans (by rw [tF])
 exact bc ((cH bb).trans ((eV ei h).trans (aU (ah rfl))))
noncomputable def hC:List D→Option D:=kd (fun x:List Nat=>[iL x]) (fun x=>x.length≤4∧Wy.Row x.length x) (fun x=>iN (Wy.mark x.length x))
theorem vU {n:Nat} {r:List Nat} (h4:n≤4) (hr:Wy.Row n r):hC [iL r]=some (iN (Wy.mark n r)):=by
 have e:=hr.1
 subst e
 exact b0 (x:=r) ⟨h4,hr⟩ fun y h hy=>by
  injection h with h1 h
  rw [fP h1]
theorem vV:∀ds d,hC ds=some d→bN 4 js ds=some d:=fun ds d h=>by
 obtain ⟨x,rfl,hp,rfl⟩:=bf h
 exact uN hp.1 hp.2
end Tn
namespace Tn
open PySem Mi
def iP (p:Nat×List Nat):D:=.tup [iN p.1,iL p.2]
def pd (l:List (Nat×List Nat)):D:=.lst (l.map iP)
theorem Q8 (a b:Nat×List Nat) (h:iP a=iP b):a=b:=by
 obtain ⟨a1,a2⟩:=a
 obtain ⟨b1,b2⟩:=b
 unfold iP at h
 injection h with h;injection h with h1 h;injection h with h2 h
 have e1:a1=b1:=cy h1
 have e2:a2=b2:=fP h2
 rw [e1,e2]
theorem Ig {a b:List (Nat×List Nat)} (h:pd a=pd b):a=b:=by
 unfold pd at h;injection h with h;exact map_inj Q8 h
def fo:Ss:=(.cons (.jj (.op .eq (.op .band (.var 3) (.var 5)) (.int 0)) (.cons (.app 2 (.tup (.cons (.op .bor (.var 3) (.var 5)) (.cons (.op .add (.var 4) (.var 6)) .nil))) []) .nil) .nil) .nil)
def gQ:Ss:=(.cons (.jk (.tp [5,6]) (.lst (.var 1)) [] fo) .nil)
def gr:Ss:=(.cons (.own 2 (.lst .nil) []) (.cons (.jk (.tp [3,4]) (.lst (.var 0)) [] gQ) (.cons (.ret (.var 2) [2]) .nil)))
theorem N_ {a b:Nat}:iA .band (iN a) (iN b)=some (iN (a &&& b)):=by
 show some (D.int (Builtin.bitAnd (a:Int) b))=_
 rw [PyProof.Rows.bitAnd_pp (by omega) (by omega)];rfl
theorem Oa {a b:Nat}:iA .bor (iN a) (iN b)=some (iN (a ||| b)):=by
 show some (D.int (Builtin.bitOr (a:Int) b))=_
 rw [Bits.D5 (by omega) (by omega)];rfl
def p_ (p:Nat×List Nat) (R:List (Nat×List Nat)):List (Nat×List Nat):=(R.filter fun q=>decide (p.1 &&& q.1=0)).map fun q=>(p.1 ||| q.1,p.2++q.2)
def r9 (p:Nat×List Nat) (acc:List (Nat×List Nat)) (q:Nat×List Nat):List (Nat×List Nat):=if p.1 &&& q.1=0 then acc++[(p.1 ||| q.1,p.2++q.2)] else acc
theorem vF (p:Nat×List Nat):∀(R acc:List (Nat×List Nat)),R.foldl (r9 p) acc=acc++p_ p R
 | [],acc=>by simp [p_]
 | q::R,acc=>by
  rw [b9,vF p R]
  unfold r9 p_
  rw [c5]
  by_cases h:p.1 &&& q.1=0
  ·rw [if_pos h,if_pos (decide_eq_true h),aN,de];rfl
  ·rw [if_neg h,if_neg (by rw [decide_eq_false h];exact aQ)]
theorem GC (p:Nat×List Nat) (R:List (Nat×List Nat)):(p_ p R).length≤R.length:=by
 unfold p_;rw [af];exact fM _ _
theorem tG:∀(B acc R:List (Nat×List Nat)),B.foldl (fun acc p=>acc++p_ p R) acc=acc++Wy.mI B R
 | [],acc,R=>by simp [Wy.mI]
 | p::B,acc,R=>by
  rw [b9,tG B,de]
  unfold Wy.mI
  rw [b_];rfl
theorem qa {B R:List (Nat×List Nat)} (hs:B.length*R.length≤1000000) (hc:∀p∈B,∀q∈R,p.2.length+q.2.length≤1000):bN 7 gr [pd B,pd R]=some (pd (Wy.mI B R)):=by
 have hz:(1000000:Nat)≤sizeLine:=by decide
 have inner:∀(p:Nat×List Nat) (acc:List (Nat×List Nat)) (x y:Sl),p∈B→acc.length+R.length≤1000000→∃x' y',loop (.tp [5,6]) (cg fo) (R.map iP) [.fz (pd B),.fz (pd R),.ow (acc.map iP),.fz (iN p.1),.fz (iL p.2),x,y]=some (.nx [.fz (pd B),.fz (pd R),.ow ((acc++p_ p R).map iP),.fz (iN p.1),.fz (iL p.2),x',y']):=by
  intro p acc x y hp ha
  obtain ⟨s',h,_,_,x',y',rfl⟩:=dD (t:=.tp [5,6]) (body:=cg fo) iP (r9 p)
   (fun b r s=>b.length+r.length≤1000000∧(∀q∈r,q∈R)∧∃x y,s=[.fz (pd B),.fz (pd R),.ow (b.map iP),.fz (iN p.1),.fz (iL p.2),x,y])
   (fun b q r s ⟨hb,hr,x,y,hs⟩=>by
    subst hs
    have hq:=hr q (by simp)
    rw [ay] at hb
    have ec:bF (.op .eq (.op .band (.var 3) (.var 5)) (.int 0)) (bx [.fz (pd B),.fz (pd R),.ow (b.map iP),.fz (iN p.1),.fz (iL p.2),.fz (iN q.1),.fz (iL q.2)])=some (.bl (decide (p.1 &&& q.1=0))) :=
     bu (bu (ah rfl) (ah rfl) N_) bb (fA (b:=0))
    by_cases h:p.1 &&& q.1=0
    ·rw [decide_eq_true h] at ec
     refine ⟨_,[.fz (pd B),.fz (pd R),.ow ((b++[(p.1 ||| q.1,p.2++q.2)]).map iP),.fz (iN p.1),.fz (iL p.2),.fz (iN q.1),.fz (iL q.2)],rfl,?_,?_,fun t ht=>hr t (by simp [ht]),_,_,by unfold r9;rw [if_pos h]⟩
     ·refine (jn ec ((yd (tj (ao (bu (ah rfl) (ah rfl) Oa) (ao (bu (ah rfl) (ah rfl) (l7 (hc p hp q hq))) aJ))) ?_).trans rfl)).trans rfl
      show (if _ then some _ else none)=_
      rw [if_pos (by rw [af];show b.length+1≤_;omega),bo]
      rfl
     ·unfold r9;rw [if_pos h,ax];show b.length+1+r.length≤_;omega
    ·rw [decide_eq_false h] at ec
     refine ⟨_,[.fz (pd B),.fz (pd R),.ow (b.map iP),.fz (iN p.1),.fz (iL p.2),.fz (iN q.1),.fz (iL q.2)],rfl,(bX ec).trans rfl,by unfold r9;rw [if_neg h];omega,fun t ht=>hr t (by simp [ht]),_,_,by unfold r9;rw [if_neg h]⟩)
   R acc _ ⟨ha,fun q hq=>hq,x,y,rfl⟩
  rw [vF] at h
  exact ⟨x',y',h⟩
 obtain ⟨s',h,_,_,u,v,x,y,rfl⟩:=dD (t:=.tp [3,4]) (body:=cg gQ) iP (fun acc p=>acc++p_ p R)
  (fun b r s=>b.length+r.length*R.length≤1000000∧(∀q∈r,q∈B)∧∃u v x y,s=[.fz (pd B),.fz (pd R),.ow (b.map iP),u,v,x,y])
  (fun b p r s ⟨hb,hr,u,v,x,y,hs⟩=>by
   subst hs
   rw [ay,gc,gW] at hb
   obtain ⟨x',y',h⟩:=inner p b x y (hr p (by simp)) (by omega)
   refine ⟨_,_,rfl,(eV (eJ (ah rfl)) h).trans rfl,?_,fun t ht=>hr t (by simp [ht]),_,_,_,_,rfl⟩
   have:=GC p R
   rw [ax]
   omega)
  B [] [.fz (pd B),.fz (pd R),.ow [],.no,.no,.no,.no] ⟨by simpa using hs,fun q hq=>hq,.no,.no,.no,.no,rfl⟩
 rw [tG,eZ] at h
 exact bc ((oA (cE aJ)).trans ((eV (eJ (ah rfl)) h).trans (aU (ah rfl))))
noncomputable def fm:List D→Option D:=kd (fun x:List (Nat×List Nat)×List (Nat×List Nat)=>[pd x.1,pd x.2]) (fun x=>x.1.length*x.2.length≤1000000∧∀p∈x.1,∀q∈x.2,p.2.length+q.2.length≤1000) (fun x=>pd (Wy.mI x.1 x.2))
theorem rj {B R:List (Nat×List Nat)} (hs:B.length*R.length≤1000000) (hc:∀p∈B,∀q∈R,p.2.length+q.2.length≤1000):fm [pd B,pd R]=some (pd (Wy.mI B R)) :=
 b0 (x:=(B,R)) ⟨hs,hc⟩ fun y h hy=>by
  obtain ⟨a,b⟩:=y
  injection h with h1 h;injection h with h2 h
  rw [Ig h1,Ig h2]
theorem rk:∀ds d,fm ds=some d→bN 7 gr ds=some d:=fun ds d h=>by
 obtain ⟨x,rfl,hp,rfl⟩:=bf h
 exact qa hp.1 hp.2
noncomputable def l8:Ss:=(.cons (.asg 3 (.comp (.nm 4) (.lst (.call "line_ways" g_ (.cons (.var 0) (.cons (.gl "LEFT" (.int 3)) (.cons (.var 2) .nil))))) .no (.tup (.cons (.call "column_marks" hC (.cons (.var 4) .nil)) (.cons (.var 4) .nil)))) []) (.cons (.asg 1 (.call "with_another_row" fm (.cons (.var 1) (.cons (.var 3) .nil))) []) .nil))
noncomputable def mL:Ss:=(.cons (.asg 1 (.lst (.cons (.tup (.cons (.int 0) (.cons (.lst .nil) .nil))) .nil)) []) (.cons (.jk (.nm 2) (.pB (.fld (.var 0) "n")) [] l8) (.cons (.ret (.comp (.tp [5,6]) (.lst (.var 1)) (.yes (.call "columns_fit" iO (.cons (.var 0) (.cons (.var 6) .nil)))) (.var 6)) []) .nil)))
theorem iQ {n:Nat}:∀{l:List (List Nat)},(∀q∈l,q.length=n)→l.flatten.length=l.length*n
 | [],_=>by simp
 | q::l,h=>by
  rw [bz,ax,h q (by simp),iQ fun r hr=>h r (by simp [hr]),ay,gc,gW,rE]
theorem BA (n:Nat) (t:vh) (c:J1):∀(m y:Nat) (L:List (List (List Nat))),(List.range' y m).foldl (fun L y=>Wy.lay n t c y L) L=Wy.Lx n t c m y L
 | 0,_,_=>rfl
 | m+1,y,L=>by rw [List.range'_succ,b9,BA n t c m (y+1),Wy.Lx]
theorem Ih (n:Nat) (t:vh) (c:J1) (y:Nat):∀L:List (List (List Nat)),(Wy.lay n t c y L).length≤L.length*(gx n t c 3 y).length
 | []=>by simp [Wy.lay]
 | l::L=>by
  have ih:=Ih n t c y L
  unfold Wy.lay at ih ⊢
  rw [b_,ax,af,ay,gc,gW]
  have:=fM (fun r=>l.all fun q=>Wy.apart q r) (gx n t c 3 y)
  omega
theorem z9 {g:ae} (ok:cP g):bN 7 mL [tD g]=some (g9 (a9 g)):=by
 have hn:=ok.hi
 obtain ⟨s',h,hL,_,_,x,y,rfl⟩:=dD (t:=.nm 2) (body:=cg l8) iN (fun L y=>Wy.lay g.n g.town g.clues y L)
  (fun L r s=>(∀l∈L,(∀q∈l,Wy.Row g.n q)∧l.length+r.length=g.n)∧L.length*24 ^ r.length≤331776∧(∀i∈r,i < g.n)∧∃x y,s=[.fz (tD g),.fz (pd (L.map (Wy.kept g.n))),x,y,.no,.no,.no])
  (fun L i r s ⟨hL,hz,hr,x,y,hs⟩=>by
   subst hs
   have hi:=hr i (by simp)
   obtain ⟨hw,Up⟩:=tE ok (k:=3) (i:=i)
   have e1:bF (.comp (.nm 4) (.lst (.call "line_ways" g_ (.cons (.var 0) (.cons (.gl "LEFT" (.int 3)) (.cons (.var 2) .nil))))) .no (.tup (.cons (.call "column_marks" hC (.cons (.var 4) .nil)) (.cons (.var 4) .nil)))) (view (freeze [] [.fz (tD g),.fz (pd (L.map (Wy.kept g.n))),.fz (iN i),y,.no,.no,.no]))=some (pd ((jf g 3 i).map fun r=>(Wy.mark g.n r,r))):=by
    refine (d9 (eJ (aL (ao (ah rfl) (ao bW (ao (ah rfl) aJ))) (oE (k:=3) ok (by decide) hi))) (dC iL (fun r=>iP (Wy.mark g.n r,r)) (jf g 3 i) fun r hr=>⟨_,rfl,kC,tj (ao (aL (ao (ah ?_) aJ) (vU ok.hi (hw r hr))) (ao (ah ?_) aJ))⟩)).trans ?_
    ·cases y<;>rfl
    ·cases y<;>rfl
    ·unfold pd;rw [a8];rfl
   have Vs:L.length*24≤331776:=by
    rw [ay,Nat.pow_succ,eM (24 ^ r.length),←Nat.mul_assoc] at hz
    have:1≤24 ^ r.length:=Nat.pow_pos (by decide)
    exact aO (Nat.le_mul_of_pos_right _ this) hz
   have Nm:(L.map (Wy.kept g.n)).length*((jf g 3 i).map fun r=>(Wy.mark g.n r,r)).length≤1000000:=by
    rw [af,af]
    have:=Na L.length Up
    omega
   have hc:∀p∈L.map (Wy.kept g.n),∀q∈(jf g 3 i).map fun r=>(Wy.mark g.n r,r),p.2.length+q.2.length≤1000:=by
    intro p hp q hq
    rw [ba] at hp hq
    obtain ⟨l,hl,rfl⟩:=hp
    obtain ⟨r',Vt,rfl⟩:=hq
    have h1:l.flatten.length=l.length*g.n:=iQ fun q hq=>((hL l hl).1 q hq).1
    have h2:=(hw r' Vt).1
    have h3:=(hL l hl).2
    have h4:l.length*g.n≤4*4:=kG (by omega) hn
    show l.flatten.length+r'.length≤1000
    omega
   have e2:bF (.call "with_another_row" fm (.cons (.var 1) (.cons (.var 3) .nil))) (view (freeze [] [.fz (tD g),.fz (pd (L.map (Wy.kept g.n))),.fz (iN i),.fz (pd ((jf g 3 i).map fun r=>(Wy.mark g.n r,r))),.no,.no,.no]))=some (pd ((Wy.lay g.n g.town g.clues i L).map (Wy.kept g.n))):=by
    refine (aL (ao (ah rfl) (ao (ah rfl) aJ)) (rj Nm hc)).trans ?_
    rw [Wy.Em (fun l hl=>(hL l hl).1) hw]
    rfl
   refine ⟨_,_,rfl,(cH e1).trans ((cH e2).trans rfl),?_,?_,fun t ht=>hr t (by simp [ht]),_,_,rfl⟩
   ·intro l hl
    unfold Wy.lay at hl
    rw [gA] at hl
    obtain ⟨k,hk,hl⟩:=hl
    rw [ba] at hl
    obtain ⟨q,hq,rfl⟩:=hl
    rw [cN] at hq
    have h3:=(hL k hk).2
    rw [ay] at h3
    refine ⟨fun t ht=>?_,by rw [ax];show k.length+1+r.length=g.n;omega⟩
    rcases bE.mp ht with ht|ht
    ·exact (hL k hk).1 t ht
    ·rw [bZ] at ht
     subst ht
     exact hw _ hq.1
   ·have h1:=Ih g.n g.town g.clues i L
    have h2:(Wy.lay g.n g.town g.clues i L).length≤L.length*24:=aO h1 (Na _ Up)
    rw [ay,Nat.pow_succ,eM (24 ^ r.length),←Nat.mul_assoc] at hz
    exact aO (mv _ h2) hz)
  (aq g.n) [[]] [.fz (tD g),.fz (pd ([[]].map (Wy.kept g.n))),.no,.no,.no,.no,.no]
  ⟨fun l hl=>by
    rw [bZ] at hl
    subst hl
    exact ⟨fun q hq=>by simp at hq,by simp⟩,by
    rw [aP]
    have:24 ^ g.n≤24 ^ 4:=Nat.pow_le_pow_right (by decide) hn
    simp
    omega,fun i hi=>aS.mp hi,.no,.no,rfl⟩
 have eL:(aq g.n).foldl (fun L y=>Wy.lay g.n g.town g.clues y L) [[]]=iG g.n g.town g.clues g.n 0 []:=by
  rw [List.range_eq_range',BA,Wy.Bx,b_,List.flatMap_nil,fT]
 rw [eL] at h hL
 have ef:bF (.comp (.tp [5,6]) (.lst (.var 1)) (.yes (.call "columns_fit" iO (.cons (.var 0) (.cons (.var 6) .nil)))) (.var 6)) (view (freeze [] [.fz (tD g),.fz (pd ((iG g.n g.town g.clues g.n 0 []).map (Wy.kept g.n))),x,y,.no,.no,.no]))=some (g9 (a9 g)):=by
  have ei:pC (.lst (.var 1)) (view (freeze [] [.fz (tD g),.fz (pd ((iG g.n g.town g.clues g.n 0 []).map (Wy.kept g.n))),x,y,.no,.no,.no]))=some ((iG g.n g.town g.clues g.n 0 []).map fun l=>iP (Wy.kept g.n l)) :=
   (eJ (ah rfl)).trans (by rw [a8];rfl)
  refine (d9 ei (g8 (fun l=>iP (Wy.kept g.n l)) (fun l=>ud g.n g.clues l.flatten) (fun l=>iL l.flatten) _ fun l hl=>⟨_,rfl,?_,fun _=>ah ?_⟩)).trans ?_
  ·have hf:l.flatten.length=g.n*g.n:=by
    rw [iQ fun q hq=>((hL l hl).1 q hq).1]
    have:=(hL l hl).2
    simp at this
    rw [this]
   refine (oz (aL (ao (ah ?_) (ao (ah ?_) aJ)) (yk ok hf))).trans ?_
   ·cases x<;>cases y<;>rfl
   ·cases x<;>cases y<;>rfl
   ·rw [N9 ok]
  ·cases x<;>cases y<;>rfl
  ·unfold a9 nL g9
   rw [jF,a8]
   rfl
 exact bc ((cH (cE (ao (tj (ao bb (ao (cE aJ) aJ))) aJ))).trans ((eV (iF (cv (ah rfl) (gm g)) (rh (by omega))) h).trans (aU ef)))
noncomputable def dE:List D→Option D:=kd (fun x:ae=>[tD x]) (fun x=>cP x) (fun x=>g9 (a9 x))
theorem fL {g:ae} (ok:cP g):dE [tD g]=some (g9 (a9 g)) :=
 b0 (x:=g) ok fun y h hy=>by
  injection h with h1 h
  rw [dM hy ok h1]
theorem Cq:∀ds d,dE ds=some d→bN 7 mL ds=some d:=fun ds d h=>by
 obtain ⟨x,rfl,hp,rfl⟩:=bf h
 exact z9 hp
end Tn
namespace Tn
open PySem Mi
def dq (a:aT):D:=.lst (.int a.ret::a.out.map iN)
noncomputable def gJ:List D→Option D:=kd (fun x:ae×Nat=>[tD x.1,iN x.2]) (fun x=>cP x.1) (fun x=>.bl (decide (x.2 < x.1.n*x.1.n)))
theorem r_ {g:ae} {c:Nat} (ok:cP g):gJ [tD g,iN c]=some (.bl (decide (c < g.n*g.n))) :=
 b0 (x:=(g,c)) ok fun y h hy=>by
  obtain ⟨a,b⟩:=y
  injection h with h1 h;injection h with h2 h
  rw [dM hy ok h1,cy h2]
theorem GD:∀ds d,gJ ds=some d→bN 2 qK ds=some d:=fun ds d h=>by
 obtain ⟨x,rfl,hp,rfl⟩:=bf h
 exact Et hp x.2
noncomputable def ig:List D→Option D:=kd (fun x:ae×Nat×Nat=>[tD x.1,iN x.2.1,iN x.2.2]) (fun x=>cP x.1) (fun x=>.bl (decide (x.2.1 < 4)&&decide (x.2.2 < x.1.n)))
theorem ym {g:ae} {k i:Nat} (ok:cP g):ig [tD g,iN k,iN i]=some (.bl (decide (k < 4)&&decide (i < g.n))) :=
 b0 (x:=(g,k,i)) ok fun y h hy=>by
  obtain ⟨a,b,c⟩:=y
  injection h with h1 h;injection h with h2 h;injection h with h3 h
  rw [dM hy ok h1,cy h2,cy h3]
theorem GF:∀ds d,ig ds=some d→bN 3 qL ds=some d:=fun ds d h=>by
 obtain ⟨x,rfl,hp,rfl⟩:=bf h
 exact Eu x.2.1 x.2.2
theorem Ii {a b:Nat} (h:0 < b) (h2:b < 1000):iA .fdiv (iN a) (iN b)=some (iN (a / b)):=by
 simp only [iN,iA]
 rw [if_pos ⟨by omega,by omega⟩];rfl
theorem LK {a b:Nat} (h:0 < b):iA .mod (iN a) (iN b)=some (iN (a % b)):=by
 simp only [iN,iA]
 rw [if_pos (by omega)];rfl
noncomputable def jt:Ss:=(.cons (.asg 2 (.fld (.var 0) "n") []) (.cons (.asg 3 (.op .add (.call "line_cells" eW (.cons (.var 2) (.cons (.gl "LEFT" (.int 3)) (.cons (.op .fdiv (.var 1) (.var 2)) .nil)))) (.call "line_cells" eW (.cons (.var 2) (.cons (.gl "ABOVE" (.int 0)) (.cons (.op .mod (.var 1) (.var 2)) .nil))))) []) (.cons (.asg 4 (.comp (.nm 5) (.lst (.var 3)) (.yes (.op .ne (.var 5) (.var 1))) (.ix (.fld (.var 0) "cells") (.var 5))) []) (.cons (.ret (.comp (.nm 6) (.D_ (.int 1) (.op .add (.var 2) (.int 1))) (.yes (.op .rF (.var 6) (.var 4))) (.var 6)) []) .nil))))
def Ij (g:ae) (i:Nat):List Nat:=(k0 g.n).filter fun h=>!((aZ g.n 3 (i / g.n)++aZ g.n 0 (i % g.n)).any fun p=>p != i&&az g.town p == h)
theorem Ik {α:Type} (p:α→Bool) (f:α→Nat) (h:Nat):∀l:List α,decide (h∈(l.filter p).map f)=l.any fun x=>p x&&f x == h
 | []=>by simp
 | a::l=>by
  rw [lS,←Ik p f h l,c5]
  cases hp:p a with
  | false=>simp
  | true =>
   simp only [if_true,aN,aF,ji]
   by_cases e:h=f a
   ·simp [e]
   ·have e2:(f a == h)=false:=by rw [beq_eq_false_iff_ne];exact fun z=>e z.symm
    simp [e,e2]
theorem EF (n k i:Nat):(aZ n k i).length=n:=by unfold aZ;rw [af,aP]
theorem uO {g:ae} {i:Nat} (ok:cP g) (hi:i < g.n*g.n):bN 7 jt [tD g,iN i]=some (iL (Ij g i)):=by
 have hn:=ok.hi
 have hl:=ok.lo
 have h1:i / g.n < g.n:=MM hi
 have h2:i % g.n < g.n:=wM _ (by omega)
 have e3:bF (.op .add (.call "line_cells" eW (.cons (.var 2) (.cons (.gl "LEFT" (.int 3)) (.cons (.op .fdiv (.var 1) (.var 2)) .nil)))) (.call "line_cells" eW (.cons (.var 2) (.cons (.gl "ABOVE" (.int 0)) (.cons (.op .mod (.var 1) (.var 2)) .nil))))) (view (freeze [] [.fz (tD g),.fz (iN i),.fz (iN g.n),.no,.no,.no,.no]))=some (iL (aZ g.n 3 (i / g.n)++aZ g.n 0 (i % g.n))) :=
  bu (aL (ao (ah rfl) (ao bW (ao (bu (ah rfl) (ah rfl) (Ii (by omega) (by omega))) aJ))) (iK (k:=3) hn (by omega))) (aL (ao (ah rfl) (ao bW (ao (bu (ah rfl) (ah rfl) (LK (by omega))) aJ))) (iK (k:=0) hn (by omega))) (l7 (by rw [EF,EF];omega))
 have e4:bF (.comp (.nm 5) (.lst (.var 3)) (.yes (.op .ne (.var 5) (.var 1))) (.ix (.fld (.var 0) "cells") (.var 5))) (view (freeze [] [.fz (tD g),.fz (iN i),.fz (iN g.n),.fz (iL (aZ g.n 3 (i / g.n)++aZ g.n 0 (i % g.n))),.no,.no,.no]))=some (iL (((aZ g.n 3 (i / g.n)++aZ g.n 0 (i % g.n)).filter fun p=>!decide (p=i)).map (az g.town))):=by
  refine (d9 (eJ (ah rfl)) (g8 iN (fun p=>!decide (p=i)) (fun p=>iN (az g.town p)) _ fun p hp=>⟨_,rfl,oz (bu (ah rfl) (ah rfl) Er),fun _=>fE (cv (ah rfl) (eF g)) (ah rfl) (jo ?_)⟩)).trans (by rw [jq])
  rw [ok.town]
  rcases bE.mp hp with hp|hp
  ·exact oB h1 hp
  ·exact oB h2 hp
 refine bc ((cH (cv (ah rfl) (gm g))).trans ((cH e3).trans ((cH e4).trans (aU ?_))))
 refine (d9 (N6 bb (bu (ah rfl) bb rfl) (Xw (by omega))) (g8 iN (fun h=>!((aZ g.n 3 (i / g.n)++aZ g.n 0 (i % g.n)).any fun p=>p != i&&az g.town p == h)) iN _ fun h hh=>⟨_,rfl,(oz (bu (ah rfl) (ah rfl) yf)).trans ?_,fun _=>ah rfl⟩)).trans rfl
 rw [Ik]
 have e:(fun p:Nat=>(!decide (p=i))&&az g.town p == h)=fun p=>p != i&&az g.town p == h:=by
  funext p
  cases e:decide (p=i) with
  | true=>rw [decide_eq_true_eq] at e;simp [e]
  | false=>rw [decide_eq_false_iff_not] at e;simp [e]
 rw [e]
noncomputable def ju:List D→Option D:=kd (fun x:ae×Nat=>[tD x.1,iN x.2]) (fun x=>cP x.1∧x.2 < x.1.n*x.1.n) (fun x=>iL (Ij x.1 x.2))
theorem vW {g:ae} {c:Nat} (ok:cP g) (hc:c < g.n*g.n):ju [tD g,iN c]=some (iL (Ij g c)) :=
 b0 (x:=(g,c)) ⟨ok,hc⟩ fun y h hy=>by
  obtain ⟨a,b⟩:=y
  injection h with h1 h;injection h with h2 h
  rw [dM hy.1 ok h1,cy h2]
theorem vX:∀ds d,ju ds=some d→bN 7 jt ds=some d:=fun ds d h=>by
 obtain ⟨x,rfl,hp,rfl⟩:=bf h
 exact uO hp.1 hp.2
theorem GG {n:Nat} (h:n≤4):∀x∈k0 n,1≤x∧x≤4:=by
 intro x hx
 unfold k0 at hx
 rw [ba] at hx
 obtain ⟨j,hj,rfl⟩:=hx
 rw [aS] at hj
 omega
noncomputable def qb:Ss:=(.cons (.jj (.not (.call "is_cell" gJ (.cons (.var 0) (.cons (.var 1) .nil)))) (.cons (.ret (.lst (.cons (.gl "NO_SUCH" (.int (-22))) .nil)) []) .nil) .nil) (.cons (.ret (.lst (.cons (.ix (.fld (.var 0) "cells") (.var 1)) (.cons (.call "as_bits" n0 (.cons (.call "free_heights" ju (.cons (.var 0) (.cons (.var 1) .nil))) .nil)) .nil))) []) .nil))
def told (g:ae) (c:Kh321.Call):aT:=(aY (some ⟨g,[],[]⟩) c).2
theorem n6 {g:ae} {i:Nat} {s:List Sl} (ok:cP g) (h0:fv (bx s) 0=some (tD g)) (h1:fv (bx s) 1=some (iN i)):bF (.not (.call "is_cell" gJ (.cons (.var 0) (.cons (.var 1) .nil)))) (bx s)=some (.bl (!decide (i < g.n*g.n))) :=
 vB (aL (ao (ah h0) (ao (ah h1) aJ)) (r_ ok))
theorem n8 {g:ae} {k i:Nat} {s:List Sl} (ok:cP g) (h0:fv (bx s) 0=some (tD g)) (h1:fv (bx s) 1=some (iN k)) (h2:fv (bx s) 2=some (iN i)):bF (.not (.call "is_line" ig (.cons (.var 0) (.cons (.var 1) (.cons (.var 2) .nil))))) (bx s)=some (.bl (!(decide (k < 4)&&decide (i < g.n)))) :=
 vB (aL (ao (ah h0) (ao (ah h1) (ao (ah h2) aJ))) (ym ok))
theorem z_ {g:ae} {i:Nat} (ok:cP g):bN 2 qb [tD g,iN i]=some (dq (told g (.at_ i))):=by
 have hn:=ok.hi
 by_cases h:i < g.n*g.n
 ·refine bc ((bX ((n6 ok rfl rfl).trans (by rw [decide_eq_true h];rfl))).trans ((aU (cE (ao (fE (cv (ah rfl) (eF g)) (ah rfl) (jo (by rw [ok.town];exact h))) (ao (aL (ao (aL (ao (ah rfl) (ao (ah rfl) aJ)) (vW ok h)) aJ) (yj ?_)) aJ)))).trans ?_))
  ·intro x hx
   have:=GG hn x (cN.mp hx).1
   omega
  ·have e:told g (.at_ i)=⟨az g.town i,[kS (Ij g i)]⟩:=by
    show (if g.n*g.n≤i then _ else _:Option aD×aT).2=_
    rw [if_neg (by omega)];rfl
   rw [e];rfl
 ·refine bc ((bG ((n6 ok rfl rfl).trans (by rw [decide_eq_false h];rfl)) (aU (cE (ao bW aJ)))).trans ?_)
  have e:told g (.at_ i)=aw (-22):=by
   show (if g.n*g.n≤i then _ else _:Option aD×aT).2=_
   rw [if_pos (by omega)]
  rw [e];rfl
noncomputable def nu:Ss:=(.cons (.jj (.not (.call "is_line" ig (.cons (.var 0) (.cons (.var 1) (.cons (.var 2) .nil))))) (.cons (.ret (.lst (.cons (.gl "NO_SUCH" (.int (-22))) .nil)) []) .nil) .nil) (.cons (.ret (.lst (.cons (.call "count_seen" di (.cons (.call "line_towers" cz (.cons (.var 0) (.cons (.var 1) (.cons (.var 2) .nil)))) .nil)) .nil)) []) .nil))
noncomputable def nv:Ss:=(.cons (.jj (.not (.call "is_line" ig (.cons (.var 0) (.cons (.var 1) (.cons (.var 2) .nil))))) (.cons (.ret (.lst (.cons (.gl "NO_SUCH" (.int (-22))) .nil)) []) .nil) .nil) (.cons (.ret (.lst (.cons (.call "line_clue" cf (.cons (.var 0) (.cons (.var 1) (.cons (.var 2) .nil)))) .nil)) []) .nil))
theorem yn {k i n:Nat} (h:k < 4∧i < n):(!(decide (k < 4)&&decide (i < n)))=false:=by rw [decide_eq_true h.1,decide_eq_true h.2];rfl
theorem Cr {k i n:Nat} (h:¬(k < 4∧i < n)):(!(decide (k < 4)&&decide (i < n)))=true:=by
 by_cases h1:k < 4
 ·rw [decide_eq_false (fun h2=>h ⟨h1,h2⟩),Bool.and_false];rfl
 ·rw [decide_eq_false h1];rfl
theorem vY {g:ae} {k i:Nat} (ok:cP g):bN 3 nu [tD g,iN k,iN i]=some (dq (told g (.seen k i))):=by
 by_cases h:k < 4∧i < g.n
 ·refine bc ((bX ((n8 ok rfl rfl rfl).trans (by rw [yn h]))).trans ((aU (cE (ao (aL (ao (aL (ao (ah rfl) (ao (ah rfl) (ao (ah rfl) aJ))) (eh ok h.2)) aJ) (gI _)) aJ))).trans ?_))
  have e:told g (.seen k i)=aw (dB g.n g.town k i:Nat):=by
   show (if 3 < k∨g.n≤i then _ else _:Option aD×aT).2=_
   rw [if_neg (by omega)]
  rw [e];rfl
 ·refine bc ((bG ((n8 ok rfl rfl rfl).trans (by rw [Cr h])) (aU (cE (ao bW aJ)))).trans ?_)
  have e:told g (.seen k i)=aw (-22):=by
   show (if 3 < k∨g.n≤i then _ else _:Option aD×aT).2=_
   rw [if_pos (by omega)]
  rw [e];rfl
theorem vZ {g:ae} {k i:Nat} (ok:cP g):bN 3 nv [tD g,iN k,iN i]=some (dq (told g (.clue k i))):=by
 by_cases h:k < 4∧i < g.n
 ·refine bc ((bX ((n8 ok rfl rfl rfl).trans (by rw [yn h]))).trans ((aU (cE (ao (aL (ao (ah rfl) (ao (ah rfl) (ao (ah rfl) aJ))) (dZ ok h.1 h.2)) aJ))).trans ?_))
  have e:told g (.clue k i)=aw (a6 g.clues k i:Nat):=by
   show (if 3 < k∨g.n≤i then _ else _:Option aD×aT).2=_
   rw [if_neg (by omega)]
  rw [e];rfl
 ·refine bc ((bG ((n8 ok rfl rfl rfl).trans (by rw [Cr h])) (aU (cE (ao bW aJ)))).trans ?_)
  have e:told g (.clue k i)=aw (-22):=by
   show (if 3 < k∨g.n≤i then _ else _:Option aD×aT).2=_
   rw [if_pos (by omega)]
  rw [e];rfl
end Tn
namespace Tn
open PySem Mi
def gR:Ss:=(.cons (.jj (.op .gt (.var 3) (.int 0)) (.cons (.aug 1 .add (.cnt (.sl (.var 0) .no (.yes (.var 2))) (.var 3))) .nil) .nil) .nil)
def gu:Ss:=(.cons (.asg 1 (.int 0) []) (.cons (.jk (.tp [2,3]) (.enum (.var 0)) [] gR) (.cons (.ret (.var 1) []) .nil)))
theorem yo (h:Nat):∀l:List Nat,(l.map fun x:Nat=>(x:Int)).count (h:Int)=l.count h
 | []=>rfl
 | a::l=>by
  rw [aN,BR,BR,yo h l]
  congr 1
  by_cases e:a=h
  ·simp [e]
  ·have:¬(a:Int)=h:=by omega
   simp [e,this]
theorem LL {l:List Nat} {h:Nat}:Jo (iL l) (iN h)=some (iN (l.count h)):=by
 have e:Jo (iL l) (iN h)=(intsOf (l.map iN)).bind fun x=>some (.int (x.count (h:Int):Nat)):=rfl
 rw [e,gq]
 show some (D.int ((l.map fun x:Nat=>(x:Int)).count (h:Int):Nat))=_
 rw [yo];rfl
theorem Ob {l:List Nat} {k:Nat}:J6 (iL l) none (some (k:Int))=some (iL (l.take k)):=by
 have e:J6 (iL l) none (some (k:Int))=some (.lst (((l.map iN).drop 0).take (min k (l.map iN).length - 0))):=rfl
 rw [e,List.drop_zero,J2,af]
 unfold iL
 congr 2
 rw [←pz]
 congr 1
 by_cases h:k≤l.length
 ·rw [e_ h]
 ·rw [Nat.min_eq_right (by omega),dR (aW _),dR (by omega)]
def likeOf (l:List Nat) (p:Nat×Nat):Nat:=if 0 < p.1 then (l.take p.2).count p.1 else 0
def gS (l:List Nat):Nat:=(l.zipIdx 0).foldl (fun m p=>m+likeOf l p) 0
theorem qc (l:List Nat):bN 4 gu [iL l]=some (iN (gS l)):=by
 obtain ⟨s',h,x,y,rfl⟩:=dD (t:=.tp [2,3]) (body:=cg gR) (fun p:Nat×Nat=>.tup [iN p.2,iN p.1]) (fun m p=>m+likeOf l p)
  (fun b r s=>∃x y,s=[.fz (iL l),.fz (iN b),x,y])
  (fun b a r s ⟨x,y,hs⟩=>by
   subst hs
   refine ⟨_,[.fz (iL l),.fz (iN (b+likeOf l a)),.fz (iN a.2),.fz (iN a.1)],rfl,?_,_,_,rfl⟩
   have ec:bF (.op .gt (.var 3) (.int 0)) (bx [.fz (iL l),.fz (iN b),.fz (iN a.2),.fz (iN a.1)])=some (.bl (decide (0 < a.1))):=bu (ah rfl) bb (i9 (b:=0))
   unfold likeOf
   by_cases h:0 < a.1
   ·rw [if_pos h]
    rw [decide_eq_true h] at ec
    exact (jn ec ((r6 (Pg (En (ah rfl) Xt (pb (ah rfl)) Ob) (ah rfl) LL) rfl).trans rfl)).trans rfl
   ·rw [if_neg h]
    rw [decide_eq_false h] at ec
    exact (bX ec).trans rfl) (l.zipIdx 0) 0 [.fz (iL l),.fz (iN 0),.no,.no] ⟨.no,.no,rfl⟩
 have ei:pC (.enum (.var 0)) (view (freeze [] [.fz (iL l),.fz (iN 0),.no,.no]))=some ((l.zipIdx 0).map fun p=>.tup [iN p.2,iN p.1]):=(w_ (ah rfl)).trans (by rw [tF])
 exact bc ((cH bb).trans ((eV ei h).trans (aU (ah rfl))))
noncomputable def dz:List D→Option D:=kd (fun x:List Nat=>[iL x]) (fun x=>True) (fun x=>iN (gS x))
theorem kX (l:List Nat):dz [iL l]=some (iN (gS l)) :=
 b0 (x:=l) trivial fun y h hy=>by
  injection h with h1 h
  rw [fP h1]
theorem rm:∀ds d,dz ds=some d→bN 4 gu ds=some d:=fun ds d h=>by
 obtain ⟨x,rfl,hp,rfl⟩:=bf h
 exact qc x
def LM (l:List Nat) (a:Nat):Nat:=((aq a).filter fun b=>l.getD a 0 != 0&&l.getD a 0 == l.getD b 0).length
theorem count_range (l:List Nat) (h:Nat):∀a:Nat,a≤l.length→(l.take a).count h=((aq a).filter fun b=>h == l.getD b 0).length
 | 0,_=>by simp
 | a+1,ha=>by
  have hg:l[a]?=some (l.getD a 0):=by rw [aj,au (by omega)];rfl
  have e:l.take (a+1)=l.take a++[l.getD a 0]:=by rw [OJ,hg];rfl
  rw [e,List.count_append,count_range l h a (by omega),List.range_succ,List.filter_append,ax]
  congr 1
  rw [List.count_singleton,c5]
  by_cases q:h=l.getD a 0
  ·rw [←q,beq_self_eq_true];rfl
  ·have q1:(h == l.getD a 0)=false:=by rw [beq_eq_false_iff_ne];exact q
   have q2:(l.getD a 0 == h)=false:=by rw [beq_eq_false_iff_ne];exact fun z=>q z.symm
   rw [q1,q2];rfl
theorem Oc (l:List Nat) {a:Nat} (ha:a < l.length):likeOf l (l.getD a 0,a)=LM l a:=by
 unfold likeOf LM
 by_cases h:0 < l.getD a 0
 ·rw [if_pos h,count_range l _ a (by omega)]
  congr 1
  apply cV
  intro b _
  have:(l.getD a 0 != 0)=true:=by rw [bne_iff_ne];omega
  rw [this,ji]
 ·rw [if_neg h]
  have e:l.getD a 0=0:=by omega
  rw [e]
  symm
  rw [Hd,List.filter_eq_nil_iff]
  intro b _
  simp
theorem BB {l:List Nat} (f:Nat×Nat→Nat):∀(r:List Nat) (x m:Nat),(∀j,j < r.length→l.getD (x+j) 0=r.getD j 0)→(r.zipIdx x).foldl (fun m p=>m+f p) m=m+((aq r.length).map fun j=>f (l.getD (x+j) 0,x+j)).sum
 | [],x,m,_=>by simp
 | h::r,x,m,hr=>by
  have h0:=hr 0 (by simp)
  have ih:=BB (l:=l) f r (x+1) (m+f (h,x)) fun j hj=>by
   have:=hr (j+1) (by simp;omega)
   rw [show x+1+j=x+(j+1) by omega,this];rfl
  rw [pL,b9,ih,ay,gU,aN,vi,a8]
  have e0:l.getD (x+0) 0=h:=h0
  have e3:f (l.getD (x+0) 0,x+0)=f (h,x):=by rw [e0];rfl
  rw [e3]
  have e1:(aq r.length).map (fun j=>f (l.getD (x+1+j) 0,x+1+j))=(aq r.length).map ((fun j=>f (l.getD (x+j) 0,x+j))∘Nat.succ):=by
   apply bQ
   intro j _
   show f (l.getD (x+1+j) 0,x+1+j)=f (l.getD (x+(j+1)) 0,x+(j+1))
   rw [show x+1+j=x+(j+1) by omega]
  rw [e1];omega
theorem yp (l:List Nat):gS l=((aq l.length).map (LM l)).sum:=by
 unfold gS
 rw [BB (l:=l) (likeOf l) l 0 0 (fun j _=>by rw [cn]),cn]
 congr 1
 apply bQ
 intro a ha
 rw [cn]
 exact Oc l (aS.mp ha)
noncomputable def kM:Ss:=(.cons (.aug 1 .add (.call "like_pairs_along" dz (.cons (.call "line_towers" cz (.cons (.var 0) (.cons (.gl "LEFT" (.int 3)) (.cons (.var 2) .nil)))) .nil))) (.cons (.aug 1 .add (.call "like_pairs_along" dz (.cons (.call "line_towers" cz (.cons (.var 0) (.cons (.gl "ABOVE" (.int 0)) (.cons (.var 2) .nil)))) .nil))) .nil))
noncomputable def k_:Ss:=(.cons (.asg 1 (.int 0) []) (.cons (.jk (.nm 2) (.pB (.fld (.var 0) "n")) [] kM) (.cons (.ret (.var 1) []) .nil)))
theorem yq (f:Nat→Nat):∀(l:List Nat) (m:Nat),l.foldl (fun m i=>m+f i) m=m+(l.map f).sum
 | [],m=>by simp
 | a::l,m=>by rw [b9,yq f l,aN,vi];omega
theorem yr {g:ae} (ok:cP g):bN 3 k_ [tD g]=some (iN (fU g)):=by
 have hn:=ok.hi
 obtain ⟨s',h,_,x,rfl⟩:=dD (t:=.nm 2) (body:=cg kM) iN (fun m i=>m+(gS (dm g 3 i)+gS (dm g 0 i)))
  (fun b r s=>(∀i∈r,i < g.n)∧∃x,s=[.fz (tD g),.fz (iN b),x])
  (fun b i r s ⟨hr,x,hs⟩=>by
   subst hs
   have hi:=hr i (by simp)
   refine ⟨_,[.fz (tD g),.fz (iN (b+(gS (dm g 3 i)+gS (dm g 0 i)))),.fz (iN i)],rfl,?_,fun t ht=>hr t (by simp [ht]),_,rfl⟩
   have e1:bF (.call "like_pairs_along" dz (.cons (.call "line_towers" cz (.cons (.var 0) (.cons (.gl "LEFT" (.int 3)) (.cons (.var 2) .nil)))) .nil)) (bx [.fz (tD g),.fz (iN b),.fz (iN i)])=some (iN (gS (dm g 3 i))) :=
    aL (ao (aL (ao (ah rfl) (ao bW (ao (ah rfl) aJ))) (eh (k:=3) ok hi)) aJ) (kX _)
   have e2:bF (.call "like_pairs_along" dz (.cons (.call "line_towers" cz (.cons (.var 0) (.cons (.gl "ABOVE" (.int 0)) (.cons (.var 2) .nil)))) .nil)) (bx [.fz (tD g),.fz (iN (b+gS (dm g 3 i))),.fz (iN i)])=some (iN (gS (dm g 0 i))) :=
    aL (ao (aL (ao (ah rfl) (ao bW (ao (ah rfl) aJ))) (eh (k:=0) ok hi)) aJ) (kX _)
   refine (r6 e1 rfl).trans ((r6 e2 rfl).trans ?_)
   rw [←vM];rfl) (aq g.n) 0 [.fz (tD g),.fz (iN 0),.no] ⟨fun i hi=>aS.mp hi,.no,rfl⟩
 have es:(aq g.n).foldl (fun m i=>m+(gS (dm g 3 i)+gS (dm g 0 i))) 0=fU g:=by
  rw [yq,cn]
  unfold fU
  congr 1
  apply bQ
  intro i _
  rw [yp,yp,iZ,iZ]
  show _=List.sum [_,_]
  rw [vi,vi,List.sum_nil,kH]
  rfl
 rw [es] at h
 exact bc ((cH bb).trans ((eV (iF (cv (ah rfl) (gm g)) (rh (by omega))) h).trans (aU (ah rfl))))
noncomputable def ij:List D→Option D:=kd (fun x:ae=>[tD x]) (fun x=>cP x) (fun x=>iN (fU x))
theorem rH {g:ae} (ok:cP g):ij [tD g]=some (iN (fU g)) :=
 b0 (x:=g) ok fun y h hy=>by
  injection h with h1 h
  rw [dM hy ok h1]
theorem Aa:∀ds d,ij ds=some d→bN 3 k_ ds=some d:=fun ds d h=>by
 obtain ⟨x,rfl,hp,rfl⟩:=bf h
 exact yr hp
noncomputable def oF:Ss:=(.cons (.ret (.and (.cons (.op .gt (.var 0) (.int 0)) (.cons (.op .rF (.int 0) (.var 1)) (.cons (.op .ne (.call "count_seen" di (.cons (.var 1) .nil)) (.var 0)) .nil)))) []) .nil)
def kN (c:Nat) (l:List Nat):Bool:=c != 0&&(l.all (fun x=>x != 0)&&dP 0 l != c)
theorem uP:∀l:List Nat,(!decide (0∈l))=l.all fun x=>x != 0
 | []=>by simp
 | a::l=>by
  rw [dk,←uP l]
  by_cases h:a=0
  ·subst h;simp
  ·have h':¬0=a:=fun z=>h z.symm
   have:(a != 0)=true:=by rw [bne_iff_ne];exact h
   rw [this,ji]
   congr 1
   exact decide_eq_decide.mpr (by rw [aF];simp [h'])
theorem LN (a b:Nat):(!decide (a=b))=(a != b):=by
 by_cases h:a=b
 ·simp [h]
 ·have:(a != b)=true:=by rw [bne_iff_ne];exact h
  rw [this,decide_eq_false h];rfl
theorem GH (a:Nat):decide (0 < a)=(a != 0):=by
 rw [←LN]
 by_cases h:a=0
 ·simp [h]
 ·rw [decide_eq_false h,decide_eq_true (by omega)];rfl
theorem Ct (c:Nat) (l:List Nat):bN 2 oF [iN c,iL l]=some (.bl (kN c l)):=by
 refine bc (aU ((Q6 (bu (ah rfl) bb (i9 (b:=0))) (fun _=>bu bb (ah rfl) (yf (x:=0))) fun _ _=>bu (aL (ao (ah rfl) aJ) (gI l)) (ah rfl) Er).trans ?_))
 rw [GH,uP,LN];rfl
noncomputable def l9:List D→Option D:=kd (fun x:Nat×List Nat=>[iN x.1,iL x.2]) (fun x=>True) (fun x=>.bl (kN x.1 x.2))
theorem EG (c:Nat) (l:List Nat):l9 [iN c,iL l]=some (.bl (kN c l)) :=
 b0 (x:=(c,l)) trivial fun y h hy=>by
  obtain ⟨a,b⟩:=y
  injection h with h1 h;injection h with h2 h
  rw [cy h1,fP h2]
theorem EH:∀ds d,l9 ds=some d→bN 2 oF ds=some d:=fun ds d h=>by
 obtain ⟨x,rfl,hp,rfl⟩:=bf h
 exact Ct x.1 x.2
noncomputable def ik:Ss:=(.cons (.jj (.call "is_wrong" l9 (.cons (.call "line_clue" cf (.cons (.var 0) (.cons (.var 2) (.cons (.var 3) .nil)))) (.cons (.call "line_towers" cz (.cons (.var 0) (.cons (.var 2) (.cons (.var 3) .nil)))) .nil))) (.cons (.aug 1 .add (.int 1)) .nil) .nil) .nil)
noncomputable def jV:Ss:=(.cons (.jk (.nm 3) (.pB (.fld (.var 0) "n")) [] ik) .nil)
noncomputable def kg:Ss:=(.cons (.asg 1 (.int 0) []) (.cons (.jk (.nm 2) (.pB (.gl "SIDES" (.int 4))) [] jV) (.cons (.ret (.var 1) []) .nil)))
theorem yt (p:Nat→Bool):∀(l:List Nat) (m:Nat),l.foldl (fun m i=>if p i=true then m+1 else m) m=m+(l.filter p).length
 | [],m=>by simp
 | a::l,m=>by
  rw [b9,yt p l,c5]
  cases h:p a with
  | true=>rw [if_pos rfl,if_pos rfl,ay];omega
  | false=>rw [if_neg aQ,if_neg aQ]
theorem EI (g:ae) (ks:List Nat):ks.foldl (fun m k=>m+((aq g.n).filter fun i=>kN (a6 g.clues k i) (dm g k i)).length) 0=(ks.map fun k=>((aq g.n).filter fun i=>a6 g.clues k i != 0&&((aZ g.n k i).all (fun p=>az g.town p != 0)&&dB g.n g.town k i != a6 g.clues k i)).length).sum:=by
 rw [yq (fun k=>((aq g.n).filter fun i=>kN (a6 g.clues k i) (dm g k i)).length),cn]
 congr 1
 apply bQ
 intro k _
 congr 1
 apply cV
 intro i _
 unfold kN dm
 rw [xD]
 rfl
theorem v7 {g:ae} (ok:cP g):bN 4 kg [tD g]=some (iN (fV g)):=by
 have hn:=ok.hi
 have inner:∀(k m:Nat) (x:Sl),k < 4→∃x',loop (.nm 3) (cg ik) ((aq g.n).map iN) [.fz (tD g),.fz (iN m),.fz (iN k),x]=some (.nx [.fz (tD g),.fz (iN (m+((aq g.n).filter fun i=>kN (a6 g.clues k i) (dm g k i)).length)),.fz (iN k),x']):=by
  intro k m x hk
  obtain ⟨s',h,_,x',rfl⟩:=dD (t:=.nm 3) (body:=cg ik) iN (fun m i=>if kN (a6 g.clues k i) (dm g k i)=true then m+1 else m)
   (fun b r s=>(∀i∈r,i < g.n)∧∃x,s=[.fz (tD g),.fz (iN b),.fz (iN k),x])
   (fun b i r s ⟨hr,x,hs⟩=>by
    subst hs
    have hi:=hr i (by simp)
    have ec:bF (.call "is_wrong" l9 (.cons (.call "line_clue" cf (.cons (.var 0) (.cons (.var 2) (.cons (.var 3) .nil)))) (.cons (.call "line_towers" cz (.cons (.var 0) (.cons (.var 2) (.cons (.var 3) .nil)))) .nil))) (bx [.fz (tD g),.fz (iN b),.fz (iN k),.fz (iN i)])=some (.bl (kN (a6 g.clues k i) (dm g k i))) :=
     aL (ao (aL (ao (ah rfl) (ao (ah rfl) (ao (ah rfl) aJ))) (dZ ok hk hi)) (ao (aL (ao (ah rfl) (ao (ah rfl) (ao (ah rfl) aJ))) (eh ok hi)) aJ)) (EG _ _)
    cases hw:kN (a6 g.clues k i) (dm g k i) with
    | true =>
     rw [hw] at ec
     exact ⟨_,[.fz (tD g),.fz (iN (b+1)),.fz (iN k),.fz (iN i)],rfl,(jn ec ((r6 bb rfl).trans rfl)).trans rfl,fun t ht=>hr t (by simp [ht]),_,by rw [if_pos rfl]⟩
    | false =>
     rw [hw] at ec
     exact ⟨_,[.fz (tD g),.fz (iN b),.fz (iN k),.fz (iN i)],rfl,(bX ec).trans rfl,fun t ht=>hr t (by simp [ht]),_,by rw [if_neg aQ]⟩) (aq g.n) m [.fz (tD g),.fz (iN m),.fz (iN k),x] ⟨fun i hi=>aS.mp hi,x,rfl⟩
  rw [yt] at h
  exact ⟨x',h⟩
 obtain ⟨s',h,_,x,y,rfl⟩:=dD (t:=.nm 2) (body:=cg jV) iN (fun m k=>m+((aq g.n).filter fun i=>kN (a6 g.clues k i) (dm g k i)).length)
  (fun b r s=>(∀k∈r,k < 4)∧∃x y,s=[.fz (tD g),.fz (iN b),x,y])
  (fun b k r s ⟨hr,x,y,hs⟩=>by
   subst hs
   obtain ⟨y',h⟩:=inner k b y (hr k (by simp))
   exact ⟨_,_,rfl,(eV (iF (cv (ah rfl) (gm g)) (rh (by omega))) h).trans rfl,fun t ht=>hr t (by simp [ht]),_,_,rfl⟩) (aq 4) 0 [.fz (tD g),.fz (iN 0),.no,.no] ⟨fun i hi=>aS.mp hi,.no,.no,rfl⟩
 have es:(aq 4).foldl (fun m k=>m+((aq g.n).filter fun i=>kN (a6 g.clues k i) (dm g k i)).length) 0=fV g:=EI g (aq 4)
 rw [es] at h
 have e4:pC (.pB (.gl "SIDES" (.int 4))) (view (freeze [] [.fz (tD g),.fz (iN 0),.no,.no]))=some ((aq 4).map iN):=iF (x:=iN 4) bW (rh (by omega))
 exact bc ((cH bb).trans ((eV e4 h).trans (aU (ah rfl))))
noncomputable def gK:List D→Option D:=kd (fun x:ae=>[tD x]) (fun x=>cP x) (fun x=>iN (fV x))
theorem qd {g:ae} (ok:cP g):gK [tD g]=some (iN (fV g)) :=
 b0 (x:=g) ok fun y h hy=>by
  injection h with h1 h
  rw [dM hy ok h1]
theorem yu:∀ds d,gK ds=some d→bN 4 kg ds=some d:=fun ds d h=>by
 obtain ⟨x,rfl,hp,rfl⟩:=bf h
 exact v7 hp
noncomputable def l_:Ss:=(.cons (.ret (.lst (.cons (.call "like_pairs" ij (.cons (.var 0) .nil)) (.cons (.call "wrong_clues" gK (.cons (.var 0) .nil)) .nil))) []) .nil)
theorem uQ {g:ae} (ok:cP g):bN 1 l_ [tD g]=some (dq (told g .clash)) :=
 bc (aU (cE (ao (aL (ao (ah rfl) aJ) (rH ok)) (ao (aL (ao (ah rfl) aJ) (qd ok)) aJ))))
noncomputable def ny:Ss:=(.cons (.jj (.or (.cons (.op .isin (.int 0) (.fld (.var 0) "cells")) (.cons (.op .gt (.call "like_pairs" ij (.cons (.var 0) .nil)) (.int 0)) (.cons (.op .gt (.call "wrong_clues" gK (.cons (.var 0) .nil)) (.int 0)) .nil)))) (.cons (.ret (.lst (.cons (.int 0) .nil)) []) .nil) .nil) (.cons (.ret (.lst (.cons (.int 1) .nil)) []) .nil))
theorem Od (g:ae):(decide (0∈g.town)||(decide (0 < fU g)||decide (0 < fV g)))=!(gd g&&(fU g == 0&&fV g == 0)):=by
 unfold gd
 rw [←uP,GH,GH]
 have h1:∀a:Nat,(a != 0)=!(a == 0):=fun a=>rfl
 rw [h1,h1]
 cases decide (0∈g.town)<;>cases (fU g == 0)<;>cases (fV g == 0)<;>rfl
theorem v8 {g:ae} (ok:cP g):bN 1 ny [tD g]=some (dq (told g .done)):=by
 have ec:bF (.or (.cons (.op .isin (.int 0) (.fld (.var 0) "cells")) (.cons (.op .gt (.call "like_pairs" ij (.cons (.var 0) .nil)) (.int 0)) (.cons (.op .gt (.call "wrong_clues" gK (.cons (.var 0) .nil)) (.int 0)) .nil)))) (bx [.fz (tD g)])=some (.bl !(gd g&&(fU g == 0&&fV g == 0))) :=
  (Ph (bu bb (cv (ah rfl) (eF g)) (Ly (x:=0))) (fun _=>bu (aL (ao (ah rfl) aJ) (rH ok)) bb (i9 (b:=0))) fun _ _=>bu (aL (ao (ah rfl) aJ) (qd ok)) bb (i9 (b:=0))).trans (by rw [Od])
 have e:told g .done=aw (if (gd g&&(fU g == 0&&fV g == 0))=true then 1 else 0):=rfl
 rw [e]
 refine bc ?_
 cases hc:(gd g&&(fU g == 0&&fV g == 0)) with
 | true =>
  rw [hc] at ec
  exact (bX ec).trans ((aU (cE (ao bb aJ))).trans rfl)
 | false =>
  rw [hc] at ec
  exact (bG ec (aU (cE (ao bb aJ)))).trans rfl
end Tn
namespace Tn
open PySem Mi
def qN:Ss:=(.cons (.ret (.un .all (.comp (.nm 2) (.lst (.var 0)) .no (.op .eq (.ix (.var 2) (.var 1)) (.ix (.ix (.var 0) (.int 0)) (.var 1))))) []) .nil)
theorem BC {α:Type} (f:α→Bool):∀l:List α,kW (l.map fun x=>D.bl (f x))=some (l.map f)
 | []=>rfl
 | a::l=>by rw [aN,kW,BC f l];rfl
theorem Q9 {α:Type} (f:α→Bool) (l:List α):vp .all (.lst (l.map fun x=>D.bl (f x)))=some (.bl (l.all f)):=by
 have e:vp .all (.lst (l.map fun x=>D.bl (f x)))=(kW (l.map fun x=>D.bl (f x))).bind fun b=>some (.bl (b.all id)):=rfl
 rw [e,BC]
 show some (D.bl ((l.map f).all id))=_
 rw [xD];rfl
theorem Cu {q:List Nat} {l:List (List Nat)}:Gf (g9 (q::l)) (.int 0)=some (iL q):=rfl
def hE (q:List Nat) (l:List (List Nat)) (i:Nat):Bool:=(q::l).all fun x=>az x i == az q i
theorem EJ {q:List Nat} {l:List (List Nat)} {i:Nat} (h:∀w∈q::l,i < w.length):bN 3 qN [g9 (q::l),iN i]=some (.bl (hE q l i)):=by
 refine bc (aU (fC (d9 (eJ (ah rfl)) (dC iL (fun x=>D.bl (az x i == az q i)) (q::l) fun x hx=>⟨_,rfl,kC,bu (fE (ah rfl) (ah rfl) (jo (h x hx))) (fE (fE (ah rfl) bb Cu) (ah rfl) (jo (h q (by simp)))) ?_⟩)) (Q9 _ _)))
 exact fA
noncomputable def il:List D→Option D:=kd (fun x:(List Nat×List (List Nat))×Nat=>[g9 (x.1.1::x.1.2),iN x.2]) (fun x=>∀w∈x.1.1::x.1.2,x.2 < w.length) (fun x=>.bl (hE x.1.1 x.1.2 x.2))
theorem sf {q:List Nat} {l:List (List Nat)} {i:Nat} (h:∀w∈q::l,i < w.length):il [g9 (q::l),iN i]=some (.bl (hE q l i)) :=
 b0 (x:=((q,l),i)) h fun y h hy=>by
  obtain ⟨⟨a,b⟩,c⟩:=y
  injection h with h1 h;injection h with h2 h
  have e:=qJ h1
  injection e with e1 e2
  have e1:a=q:=e1
  have e2:b=l:=e2
  have e3:c=i:=cy h2
  rw [e1,e2,e3]
theorem GI:∀ds d,il ds=some d→bN 3 qN ds=some d:=fun ds d h=>by
 obtain ⟨x,rfl,hp,rfl⟩:=bf h
 exact EJ hp
theorem xh {g:ae} (ok:cP g):∀(m y:Nat) (l:List (List Nat)),(∀q∈l,Wy.Row g.n q)→∀w∈iG g.n g.town g.clues m y l,(∀q∈w,Wy.Row g.n q)∧w.length=l.length+m
 | 0,y,l,hl,w,hw=>by
  unfold iG at hw
  rw [bZ] at hw
  subst hw
  exact ⟨hl,rfl⟩
 | m+1,y,l,hl,w,hw=>by
  unfold iG at hw
  rw [gA] at hw
  obtain ⟨r,hr,hw⟩:=hw
  rw [cN] at hr
  have Xx:=(tE ok (k:=3) (i:=y)).1 r hr.1
  obtain ⟨h1,h2⟩:=xh ok m (y+1) (l++[r]) (fun q hq=>by
   rcases bE.mp hq with hq|hq
   ·exact hl q hq
   ·rw [bZ] at hq
    subst hq
    exact Xx) w hw
  refine ⟨h1,?_⟩
  rw [h2,ax]
  show l.length+1+m=_
  omega
theorem qe {g:ae} (ok:cP g):∀w∈a9 g,w.length=g.n*g.n∧∀x∈w,1≤x∧x≤g.n:=by
 intro w hw
 unfold a9 nL at hw
 have hw:=(cN.mp hw).1
 rw [ba] at hw
 obtain ⟨l,hl,rfl⟩:=hw
 obtain ⟨h1,h2⟩:=xh ok g.n 0 [] (fun q hq=>by simp at hq) l hl
 refine ⟨?_,fun x hx=>?_⟩
 ·rw [iQ fun q hq=>(h1 q hq).1,h2];simp
 ·rw [PB] at hx
  obtain ⟨q,hq,hx⟩:=hx
  exact (h1 q hq).2 x hx
theorem iV {l:List (List Nat)}:vp .len (g9 l)=some (iN l.length):=by
 show some (D.int ((l.map iL).length:Nat))=_
 rw [af];rfl
theorem Cv {l:List (List Nat)} {i:Nat} {w:List Nat} (h:l[i]?=some w):Gf (g9 l) (iN i)=some (iL w):=by
 show (l.map iL)[i]?=_
 rw [b8,h];rfl
noncomputable def ma:Ss:=(.cons (.ret (.lst (.cons (.un .len (.call "town_ways" dE (.cons (.var 0) .nil))) .nil)) []) .nil)
theorem uR {g:ae} (ok:cP g):bN 1 ma [tD g]=some (dq (told g .count)) :=
 bc (aU (cE (ao (fC (aL (ao (ah rfl) aJ) (fL ok)) iV) aJ)))
noncomputable def oG:Ss:=(.cons (.asg 2 (.call "town_ways" dE (.cons (.var 0) .nil)) []) (.cons (.jj (.op .ge (.var 1) (.un .len (.var 2))) (.cons (.ret (.lst (.cons (.gl "NONE_THERE" (.int (-2))) .nil)) []) .nil) .nil) (.cons (.ret (.op .add (.lst (.cons (.un .len (.ix (.var 2) (.var 1))) .nil)) (.ix (.var 2) (.var 1))) []) .nil)))
theorem mM {x:Nat} {l:List Nat} (h:l.length≤999):iA .add (.lst [iN x]) (iL l)=some (iL (x::l)):=l7 (a:=[x]) (by show 1+l.length≤1000;omega)
theorem yw {g:ae} {k:Nat} (ok:cP g):bN 3 oG [tD g,iN k]=some (dq (told g (.nth k))):=by
 have hn:=ok.hi
 have ec:bF (.op .ge (.var 1) (.un .len (.var 2))) (bx [.fz (tD g),.fz (iN k),.fz (g9 (a9 g))])=some (.bl (decide ((a9 g).length≤k))):=bu (ah rfl) (fC (ah rfl) iV) Pk
 refine bc ((cH (aL (ao (ah rfl) aJ) (fL ok))).trans ?_)
 have et:told g (.nth k)=match (a9 g)[k]? with|some l=>vj l|none=>aw (-2):=by
  show (match (a9 g)[k]? with|some l=>_|none=>_:Option aD×aT).2=_
  cases (a9 g)[k]?<;>rfl
 rw [et]
 by_cases h:(a9 g).length≤k
 ·rw [decide_eq_true h] at ec
  rw [bY h]
  exact (bG ec (aU (cE (ao bW aJ)))).trans rfl
 ·rw [decide_eq_false h] at ec
  obtain ⟨w,hw⟩:∃w,(a9 g)[k]?=some w:=⟨_,au (by omega)⟩
  rw [hw]
  have hl:=(qe ok w (b7 hw)).1
  have:g.n*g.n≤4*4:=kG hn hn
  exact (bX ec).trans ((aU (bu (cE (ao (fC (fE (ah rfl) (ah rfl) (Cv hw)) gP) aJ)) (fE (ah rfl) (ah rfl) (Cv hw)) (mM (by omega)))).trans rfl)
noncomputable def nB:Ss:=(.cons (.jj (.not (.call "is_cell" gJ (.cons (.var 0) (.cons (.var 1) .nil)))) (.cons (.ret (.lst (.cons (.gl "NO_SUCH" (.int (-22))) .nil)) []) .nil) .nil) (.cons (.asg 2 (.call "town_ways" dE (.cons (.var 0) .nil)) []) (.cons (.jj (.op .eq (.un .len (.var 2)) (.int 0)) (.cons (.ret (.lst (.cons (.gl "NO_WAY" (.int (-33))) .nil)) []) .nil) .nil) (.cons (.jj (.not (.call "is_same" il (.cons (.var 2) (.cons (.var 1) .nil)))) (.cons (.ret (.lst (.cons (.gl "UNSURE" (.int (-6))) .nil)) []) .nil) .nil) (.cons (.ret (.lst (.cons (.ix (.ix (.var 2) (.int 0)) (.var 1)) .nil)) []) .nil)))))
theorem v9 {g:ae} {i:Nat} (ok:cP g):bN 3 nB [tD g,iN i]=some (dq (told g (.sure i))):=by
 by_cases h:i < g.n*g.n
 ·refine bc ((bX ((n6 ok rfl rfl).trans (by rw [decide_eq_true h];rfl))).trans ((cH (aL (ao (ah rfl) aJ) (fL ok))).trans ?_))
  have et:told g (.sure i)=match a9 g with|[]=>aw (-33)|q::l=>aw (if ((q::l).all fun x=>az x i == az q i)=true then (az q i:Nat) else (-6)):=by
   show (if g.n*g.n≤i then _ else (match a9 g with|[]=>_|q::l=>_):Option aD×aT).2=_
   rw [if_neg (by omega)]
   cases a9 g<;>rfl
  rw [et]
  have fR:=qe ok
  generalize a9 g=A at fR ⊢
  cases A with
  | nil=>exact (bG (bu (fC (ah rfl) iV) bb (fA (b:=0))) (aU (cE (ao bW aJ)))).trans rfl
  | cons q l =>
   have hl:∀w∈q::l,i < w.length:=fun w hw=>by rw [(fR w hw).1];exact h
   refine (bX (bu (fC (ah rfl) iV) bb (fA (b:=0)))).trans ?_
   have ec:bF (.not (.call "is_same" il (.cons (.var 2) (.cons (.var 1) .nil)))) (bx [.fz (tD g),.fz (iN i),.fz (g9 (q::l))])=some (.bl !(hE q l i)):=vB (aL (ao (ah rfl) (ao (ah rfl) aJ)) (sf hl))
   show _=some (Out.rt (dq (aw (if hE q l i=true then _ else _))))
   cases hs:hE q l i with
   | true =>
    rw [hs] at ec
    exact (bX ec).trans ((aU (cE (ao (fE (fE (ah rfl) bb Cu) (ah rfl) (jo (hl q (by simp)))) aJ))).trans rfl)
   | false =>
    rw [hs] at ec
    exact (bG ec (aU (cE (ao bW aJ)))).trans rfl
 ·refine bc ((bG ((n6 ok rfl rfl).trans (by rw [decide_eq_false h];rfl)) (aU (cE (ao bW aJ)))).trans ?_)
  have e:told g (.sure i)=aw (-22):=by
   show (if g.n*g.n≤i then _ else _:Option aD×aT).2=_
   rw [if_pos (by omega)]
  rw [e];rfl
noncomputable def qO:Ss:=(.cons (.ret (.call "as_bits" n0 (.cons (.comp (.nm 2) (.lst (.var 0)) .no (.ix (.var 2) (.var 1))) .nil)) []) .nil)
theorem EK {A:List (List Nat)} {i:Nat} (h:∀w∈A,i < w.length∧∀x∈w,1≤x∧x≤1000):bN 3 qO [g9 A,iN i]=some (iN (kS (A.map fun w=>az w i))):=by
 refine bc (aU (aL (ao ((d9 (eJ (ah rfl)) (dC iL (fun w=>iN (az w i)) A fun w hw=>⟨_,rfl,kC,fE (ah rfl) (ah rfl) (jo (h w hw).1)⟩)).trans (by rw [jq])) aJ) (yj ?_)))
 intro x hx
 rw [ba] at hx
 obtain ⟨w,hw,rfl⟩:=hx
 have hm:az w i∈w:=by
  unfold az
  rw [aj,au (h w hw).1]
  exact cS _
 exact (h w hw).2 _ hm
noncomputable def n9:List D→Option D:=kd (fun x:List (List Nat)×Nat=>[g9 x.1,iN x.2]) (fun x=>∀w∈x.1,x.2 < w.length∧∀y∈w,1≤y∧y≤1000) (fun x=>iN (kS (x.1.map fun w=>az w x.2)))
theorem yx {A:List (List Nat)} {i:Nat} (h:∀w∈A,i < w.length∧∀x∈w,1≤x∧x≤1000):n9 [g9 A,iN i]=some (iN (kS (A.map fun w=>az w i))) :=
 b0 (x:=(A,i)) h fun y h hy=>by
  obtain ⟨a,b⟩:=y
  injection h with h1 h;injection h with h2 h
  rw [qJ h1,cy h2]
theorem GJ:∀ds d,n9 ds=some d→bN 3 qO ds=some d:=fun ds d h=>by
 obtain ⟨x,rfl,hp,rfl⟩:=bf h
 exact EK hp
noncomputable def md:Ss:=(.cons (.jj (.not (.call "is_cell" gJ (.cons (.var 0) (.cons (.var 1) .nil)))) (.cons (.ret (.lst (.cons (.gl "NO_SUCH" (.int (-22))) .nil)) []) .nil) .nil) (.cons (.ret (.lst (.cons (.call "bits_at" n9 (.cons (.call "town_ways" dE (.cons (.var 0) .nil)) (.cons (.var 1) .nil))) .nil)) []) .nil))
theorem uS {g:ae} {i:Nat} (ok:cP g):bN 2 md [tD g,iN i]=some (dq (told g (.could i))):=by
 have hn:=ok.hi
 by_cases h:i < g.n*g.n
 ·refine bc ((bX ((n6 ok rfl rfl).trans (by rw [decide_eq_true h];rfl))).trans ((aU (cE (ao (aL (ao (aL (ao (ah rfl) aJ) (fL ok)) (ao (ah rfl) aJ)) (yx fun w hw=>⟨by rw [(qe ok w hw).1];exact h,fun x hx=>by have:=(qe ok w hw).2 x hx;omega⟩)) aJ))).trans ?_))
  have e:told g (.could i)=aw (kS ((a9 g).map fun w=>az w i):Nat):=by
   show (if g.n*g.n≤i then _ else _:Option aD×aT).2=_
   rw [if_neg (by omega)]
  rw [e];rfl
 ·refine bc ((bG ((n6 ok rfl rfl).trans (by rw [decide_eq_false h];rfl)) (aU (cE (ao bW aJ)))).trans ?_)
  have e:told g (.could i)=aw (-22):=by
   show (if g.n*g.n≤i then _ else _:Option aD×aT).2=_
   rw [if_pos (by omega)]
  rw [e];rfl
noncomputable def me:Ss:=(.cons (.asg 1 (.call "town_ways" dE (.cons (.var 0) .nil)) []) (.cons (.jj (.op .eq (.un .len (.var 1)) (.int 0)) (.cons (.ret (.lst (.cons (.gl "NO_WAY" (.int (-33))) .nil)) []) .nil) .nil) (.cons (.asg 2 (.comp (.nm 3) (.pB (.un .len (.fld (.var 0) "cells"))) (.yes (.call "is_same" il (.cons (.var 1) (.cons (.var 3) .nil)))) (.var 3)) []) (.cons (.ret (.op .add (.lst (.cons (.un .len (.var 2)) .nil)) (.var 2)) []) .nil))))
theorem uT {g:ae} (ok:cP g):bN 4 me [tD g]=some (dq (told g .known)):=by
 have hn:=ok.hi
 have hnn:g.n*g.n≤4*4:=kG hn hn
 refine bc ((cH (aL (ao (ah rfl) aJ) (fL ok))).trans ?_)
 have et:told g .known=match a9 g with|[]=>aw (-33)|q::l=>vj ((aq (g.n*g.n)).filter fun i=>(q::l).all fun x=>az x i == az q i):=by
  show (match a9 g with|[]=>_|q::l=>_:Option aD×aT).2=_
  cases a9 g<;>rfl
 rw [et]
 have fR:=qe ok
 generalize a9 g=A at fR ⊢
 cases A with
 | nil=>exact (bG (bu (fC (ah rfl) iV) bb (fA (b:=0))) (aU (cE (ao bW aJ)))).trans rfl
 | cons q l =>
  refine (bX (bu (fC (ah rfl) iV) bb (fA (b:=0)))).trans ?_
  have el:vp .len (iL g.town)=some (iN (g.n*g.n)):=by rw [gP,ok.town]
  have e2:bF (.comp (.nm 3) (.pB (.un .len (.fld (.var 0) "cells"))) (.yes (.call "is_same" il (.cons (.var 1) (.cons (.var 3) .nil)))) (.var 3)) (view (freeze [] [.fz (tD g),.fz (g9 (q::l)),.no,.no]))=some (iL ((aq (g.n*g.n)).filter (hE q l))) :=
   (d9 (iF (fC (cv (ah rfl) (eF g)) el) (rh (by omega))) (g8 iN (hE q l) iN (aq (g.n*g.n)) fun i hi=>⟨_,rfl,oz (aL (ao (ah rfl) (ao (ah rfl) aJ)) (sf fun w hw=>by rw [(fR w hw).1];exact aS.mp hi)),fun _=>ah rfl⟩)).trans rfl
  have hlen:((aq (g.n*g.n)).filter (hE q l)).length≤16:=by
   have:=fM (hE q l) (aq (g.n*g.n))
   rw [aP] at this
   omega
  exact (cH e2).trans ((aU (bu (cE (ao (fC (ah rfl) gP) aJ)) (ah rfl) (mM (l:=(aq (g.n*g.n)).filter (hE q l)) (by omega)))).trans rfl)
end Tn
namespace Tn
open PySem Mi
def GK (l:List Int):D:=.lst (l.map .int)
def sgn (n b:Nat):Int:=match fW n b with
 | some v=>v
 | none=>-1
def mO:Ss:=(.cons (.jj (.op .eq (.var 1) (.gl "DOT" (.int 46))) (.cons (.ret (.int 0) []) .nil) .nil) (.cons (.jj (.and (.cons (.op .gt (.var 1) (.gl "DIGIT_ZERO" (.int 48))) (.cons (.op .le (.var 1) (.op .add (.gl "DIGIT_ZERO" (.int 48)) (.var 0))) .nil))) (.cons (.ret (.op .sub (.var 1) (.gl "DIGIT_ZERO" (.int 48))) []) .nil) .nil) (.cons (.ret (.gl "NO_SIGN" (.int (-1))) []) .nil)))
theorem Ab (n b:Nat):bN 2 mO [iN n,iN b]=some (.int (sgn n b)):=by
 have e1:bF (.op .eq (.var 1) (.gl "DOT" (.int 46))) (bx [.fz (iN n),.fz (iN b)])=some (.bl (decide (b=46))):=bu (ah rfl) bW (fA (b:=46))
 have e2:bF (.and (.cons (.op .gt (.var 1) (.gl "DIGIT_ZERO" (.int 48))) (.cons (.op .le (.var 1) (.op .add (.gl "DIGIT_ZERO" (.int 48)) (.var 0))) .nil))) (bx [.fz (iN n),.fz (iN b)])=some (.bl (decide (48 < b)&&decide (b≤48+n))) :=
  uH (bu (ah rfl) bW (i9 (b:=48))) fun _=>bu (ah rfl) (bu bW (ah rfl) (d_ (a:=48))) Uo
 refine bc ?_
 unfold sgn fW
 by_cases h:b=46
 ·rw [decide_eq_true h] at e1
  rw [if_pos h]
  exact (bG e1 (aU bb)).trans rfl
 ·rw [decide_eq_false h] at e1
  rw [if_neg h]
  refine (bX e1).trans ?_
  by_cases h2:49≤b∧b≤48+n
  ·rw [decide_eq_true (show 48 < b by omega),decide_eq_true h2.2] at e2
   rw [if_pos h2]
   refine (bG e2 (aU (bu (ah rfl) bW rfl))).trans ?_
   have:(b:Int) - 48=((b - 48:Nat):Int):=by omega
   show some (Out.rt (D.int ((b:Int) - 48)))=_
   rw [this]
  ·have e3:(decide (48 < b)&&decide (b≤48+n))=false:=by
    rw [kT,decide_eq_false_iff_not,decide_eq_false_iff_not]
    omega
   rw [e3] at e2
   rw [if_neg h2]
   exact (bX e2).trans (aU bW)
noncomputable def mP:List D→Option D:=kd (fun x:Nat×Nat=>[iN x.1,iN x.2]) (fun x=>True) (fun x=>.int (sgn x.1 x.2))
theorem Cw (n b:Nat):mP [iN n,iN b]=some (.int (sgn n b)) :=
 b0 (x:=(n,b)) trivial fun y h hy=>by
  obtain ⟨a,c⟩:=y
  injection h with h1 h;injection h with h2 h
  rw [cy h1,cy h2]
theorem Cy:∀ds d,mP ds=some d→bN 2 mO ds=some d:=fun ds d h=>by
 obtain ⟨x,rfl,hp,rfl⟩:=bf h
 exact Ab x.1 x.2
noncomputable def lg:Ss:=(.cons (.ret (.comp (.nm 2) (.lst (.var 1)) .no (.call "read_sign" mP (.cons (.var 0) (.cons (.var 2) .nil)))) []) .nil)
theorem yy (n:Nat) (l:List Nat):bN 3 lg [iN n,iL l]=some (GK (l.map (sgn n))):=by
 refine bc (aU ((d9 (eJ (ah rfl)) (dC iN (fun b=>.int (sgn n b)) l fun b _=>⟨_,rfl,kC,aL (ao (ah rfl) (ao (ah rfl) aJ)) (Cw n b)⟩)).trans ?_))
 unfold GK;rw [a8];rfl
noncomputable def ip:List D→Option D:=kd (fun x:Nat×List Nat=>[iN x.1,iL x.2]) (fun x=>True) (fun x=>GK (x.2.map (sgn x.1)))
theorem rJ (n:Nat) (l:List Nat):ip [iN n,iL l]=some (GK (l.map (sgn n))) :=
 b0 (x:=(n,l)) trivial fun y h hy=>by
  obtain ⟨a,c⟩:=y
  injection h with h1 h;injection h with h2 h
  rw [cy h1,fP h2]
theorem Ac:∀ds d,ip ds=some d→bN 3 lg ds=some d:=fun ds d h=>by
 obtain ⟨x,rfl,hp,rfl⟩:=bf h
 exact yy x.1 x.2
def kO:Ss:=(.cons (.jj (.op .eq (.var 3) (.gl "LINE_END" (.int 10))) (.cons (.app 1 (.var 2) [2]) (.cons (.own 2 (.lst .nil) []) .nil)) (.cons (.app 2 (.var 3) []) .nil)) .nil)
def lh:Ss:=(.cons (.own 1 (.lst .nil) []) (.cons (.own 2 (.lst .nil) []) (.cons (.jk (.nm 3) (.lst (.var 0)) [] kO) (.cons (.jj (.op .gt (.un .len (.var 2)) (.int 0)) (.cons (.app 1 (.var 2) [2]) .nil) .nil) (.cons (.ret (.var 1) [1]) .nil)))))
def cut (s:List (List Nat)×List Nat) (b:Nat):List (List Nat)×List Nat:=if b=10 then (s.1++[s.2],[]) else (s.1,s.2++[b])
theorem EL (t:List Nat):eN 10 t≠[]:=by
 cases t with
 | nil=>exact fun h=>nomatch h
 | cons c r =>
  unfold eN
  split
  ·exact fun h=>nomatch h
  ·split
   ·exact fun h=>nomatch h
   ·exact fun h=>nomatch h
theorem uU:∀(t:List Nat) (ls:List (List Nat)) (l:List Nat),((t.foldl cut (ls,l)).1++[(t.foldl cut (ls,l)).2])=ls++((l++(eN 10 t).headD [])::(eN 10 t).tail)
 | [],ls,l=>by simp [eN]
 | b::t,ls,l=>by
  rw [b9]
  have kI:=EL t
  by_cases h:b=10
  ·have e:cut (ls,l) b=(ls++[l],[]):=by unfold cut;rw [if_pos h]
   rw [e,uU t]
   rw [eN]
   cases hs:eN 10 t with
   | nil=>exact absurd hs kI
   | cons p q=>simp [h]
  ·have e:cut (ls,l) b=(ls,l++[b]):=by unfold cut;rw [if_neg h]
   rw [e,uU t]
   rw [eN]
   cases hs:eN 10 t with
   | nil=>exact absurd hs kI
   | cons p q=>simp [h]
def done (s:List (List Nat)×List Nat):List (List Nat):=if s.2.length=0 then s.1 else s.1++[s.2]
theorem JK (t:List Nat):done (t.foldl cut ([],[]))=fq t:=by
 have h:=uU t [] []
 rw [eZ,eZ] at h
 have hs:(eN 10 t).headD []::(eN 10 t).tail=eN 10 t:=by
  cases hs:eN 10 t with
  | nil=>exact absurd hs (EL t)
  | cons p q=>rfl
 rw [hs] at h
 unfold done fq
 simp only []
 rw [←h]
 have h1:((t.foldl cut ([],[])).1++[(t.foldl cut ([],[])).2]).getLastD []=(t.foldl cut ([],[])).2:=by
  rw [FH,List.getLast?_append];rfl
 rw [h1,List.dropLast_append]
 by_cases hz:(t.foldl cut ([],[])).2=[]
 ·rw [if_pos hz,if_pos (by rw [hz];rfl)]
  simp
 ·rw [if_neg hz,if_neg (fun z=>hz (Hd.mp z))]
theorem yz {t:List Nat} (ht:t.length≤1000):bN 4 lh [iL t]=some (g9 (fq t)):=by
 have hz:(1000:Nat)≤sizeLine:=by decide
 obtain ⟨s',h,Xy,x,rfl⟩:=dD (t:=.nm 3) (body:=cg kO) iN cut
  (fun b r s=>b.1.length+b.2.length+r.length≤1000∧∃x,s=[.fz (iL t),.ow (b.1.map iL),.ow (b.2.map iN),x])
  (fun b a r s ⟨hb,x,hs⟩=>by
   subst hs
   rw [ay] at hb
   have ec:bF (.op .eq (.var 3) (.gl "LINE_END" (.int 10))) (bx [.fz (iL t),.ow (b.1.map iL),.ow (b.2.map iN),.fz (iN a)])=some (.bl (decide (a=10))):=bu (ah rfl) bW (fA (b:=10))
   unfold cut
   by_cases h:a=10
   ·rw [decide_eq_true h] at ec
    rw [if_pos h]
    refine ⟨_,[.fz (iL t),.ow ((b.1++[b.2]).map iL),.ow ([].map iN),.fz (iN a)],rfl,?_,by simp;omega,_,rfl⟩
    refine (jn ec ((yd (d:=iL b.2) (s1:=[.fz (iL t),.ow ((b.1++[b.2]).map iL),.fz (iL b.2),.fz (iN a)]) (ah rfl) ?_).trans ((oA (cE aJ)).trans rfl))).trans rfl
    show (if (b.1.map iL).length+1≤sizeLine then some _ else none)=_
    rw [if_pos (by rw [af];omega),bo]
    rfl
   ·rw [decide_eq_false h] at ec
    rw [if_neg h]
    refine ⟨_,[.fz (iL t),.ow (b.1.map iL),.ow ((b.2++[a]).map iN),.fz (iN a)],rfl,?_,by simp;omega,_,rfl⟩
    refine (Eo ec ((yd (d:=iN a) (s1:=[.fz (iL t),.ow (b.1.map iL),.ow ((b.2++[a]).map iN),.fz (iN a)]) (ah rfl) ?_).trans rfl)).trans rfl
    show (if (b.2.map iN).length+1≤sizeLine then some _ else none)=_
    rw [if_pos (by rw [af];omega),bo]
    rfl) t ([],[]) [.fz (iL t),.ow [],.ow [],.no] ⟨by simpa using ht,.no,rfl⟩
 rw [←JK]
 generalize t.foldl cut ([],[])=st at h Xy ⊢
 obtain ⟨ls,l⟩:=st
 simp only at h Xy
 have ec:bF (.op .gt (.un .len (.var 2)) (.int 0)) (bx [.fz (iL t),.ow (ls.map iL),.ow (l.map iN),x])=some (.bl (decide (0 < l.length))):=by
  refine bu (fC (ah ?_) (gP (l:=l))) bb (i9 (b:=0))
  cases x<;>rfl
 refine bc ((oA (cE aJ)).trans ((oA (cE aJ)).trans ((eV (eJ (ah rfl)) h).trans ?_)))
 unfold done
 by_cases hl:l.length=0
 ·rw [decide_eq_false (by omega)] at ec
  rw [if_pos hl]
  refine (bX ec).trans (aU (ah ?_))
  cases x<;>rfl
 ·rw [decide_eq_true (by omega)] at ec
  rw [if_neg hl]
  refine (jn (s1:=[.fz (iL t),.ow ((ls++[l]).map iL),.fz (iL l),x]) ec ((yd (d:=iL l) (s1:=[.fz (iL t),.ow ((ls++[l]).map iL),.fz (iL l),x]) (ah ?_) ?_).trans rfl)).trans (aU (ah ?_))
  ·cases x<;>rfl
  ·show (if (ls.map iL).length+1≤sizeLine then some _ else none)=_
   rw [if_pos (by rw [af];simp at Xy;omega),bo]
   rfl
  ·cases x<;>rfl
noncomputable def jv:List D→Option D:=kd (fun x:List Nat=>[iL x]) (fun x=>x.length≤1000) (fun x=>g9 (fq x))
theorem Ad {t:List Nat} (ht:t.length≤1000):jv [iL t]=some (g9 (fq t)) :=
 b0 (x:=t) ht fun y h hy=>by
  injection h with h1 h
  rw [fP h1]
theorem Ae:∀ds d,jv ds=some d→bN 4 lh ds=some d:=fun ds d h=>by
 obtain ⟨x,rfl,hp,rfl⟩:=bf h
 exact yz hp
end Tn
namespace Tn
open PySem Mi
def Form (n:Nat) (L:List (List Nat)):Prop:=L.length=n+2∧∀l∈L,l.length=n+2
theorem tH (n:Nat) (L:List (List Nat)):L.map lZ=aG (n+2) (n+2) ↔ Form n L:=by
 unfold Form
 rw [List.eq_replicate_iff,af]
 constructor
 ·rintro ⟨h1,h2⟩
  exact ⟨h1,fun l hl=>h2 _ (ba.mpr ⟨l,hl,rfl⟩)⟩
 ·rintro ⟨h1,h2⟩
  refine ⟨h1,fun b hb=>?_⟩
  obtain ⟨l,hl,rfl⟩:=ba.mp hb
  exact h2 l hl
def oH:Ss:=(.cons (.jj (.op .ne (.comp (.nm 3) (.lst (.var 1)) .no (.un .len (.var 3))) (.op .mul (.lst (.cons (.op .add (.var 0) (.int 2)) .nil)) (.op .add (.var 0) (.int 2)))) (.cons (.ret (.bl false) []) .nil) .nil) (.cons (.asg 2 (.lst (.cons (.ix (.ix (.var 1) (.int 0)) (.int 0)) (.cons (.ix (.ix (.var 1) (.int 0)) (.op .add (.var 0) (.int 1))) (.cons (.ix (.ix (.var 1) (.op .add (.var 0) (.int 1))) (.int 0)) (.cons (.ix (.ix (.var 1) (.op .add (.var 0) (.int 1))) (.op .add (.var 0) (.int 1))) .nil))))) []) (.cons (.ret (.op .eq (.var 2) (.op .mul (.lst (.cons (.gl "BLANK" (.int 32)) .nil)) (.int 4))) []) .nil)))
theorem cast_eq {a b:List Nat}:decide ((a.map fun x:Nat=>(x:Int))=b.map fun x:Nat=>(x:Int))=decide (a=b):=by
 apply decide_eq_decide.mpr
 constructor
 ·exact fun h=>map_inj (fun x y e=>by omega) h
 ·exact fun h=>by rw [h]
theorem Uq {a b:List Nat}:iA .eq (iL a) (iL b)=some (.bl (decide (a=b))):=by
 have e:iA .eq (iL a) (iL b)=((intsOf (a.map iN)).bind fun x=>(intsOf (b.map iN)).bind fun y=>some (decide (x=y))).bind (fun c=>some (D.bl c)):=rfl
 rw [e,gq,gq]
 simp only [bw,cast_eq]
theorem Ur {a b:List Nat}:iA .ne (iL a) (iL b)=some (.bl (!decide (a=b))):=by
 have e:iA .ne (iL a) (iL b)=((intsOf (a.map iN)).bind fun x=>(intsOf (b.map iN)).bind fun y=>some (decide (x=y))).bind (fun c=>some (D.bl (!c))):=rfl
 rw [e,gq,gq]
 simp only [bw,cast_eq]
theorem tI {α:Type} (x:α):∀k:Nat,(aG k [x]).flatten=aG k x
 | 0=>rfl
 | k+1=>by rw [cM,bz,tI x k,cM];rfl
theorem LO {x k:Nat} (h:k≤1000):iA .mul (.lst [iN x]) (iN k)=some (iL (aG k x)):=by
 have hz:(1000:Nat)≤sizeLine:=by decide
 simp only [iN,iA]
 rw [if_pos ⟨by omega,by omega,by rw [iD];show 1*k≤_;omega⟩,iD,tI]
 unfold iL
 rw [Nb];rfl
def Cz (n:Nat) (L:List (List Nat)):List Nat:=[(L.getD 0 []).getD 0 0,(L.getD 0 []).getD (n+1) 0,(L.getD (n+1) []).getD 0 0,(L.getD (n+1) []).getD (n+1) 0]
def qf (n:Nat) (L:List (List Nat)):Bool:=decide (L.map lZ=aG (n+2) (n+2))&&decide (Cz n L=[32,32,32,32])
theorem Vu {L:List (List Nat)} {k:Nat} (h:k < L.length):Gf (g9 L) (iN k)=some (iL (L.getD k [])):=Cv (by rw [au h,aj,au h];rfl)
theorem jw {L:List (List Nat)} {k m:Nat} (h:k < L.length) (hl:∀l∈L,l.length=m):(L.getD k []).length=m:=by
 apply hl
 rw [aj,au h]
 exact cS _
theorem CA {n:Nat} {L:List (List Nat)} (hn:n≤4):bN 4 oH [iN n,g9 L]=some (.bl (qf n L)):=by
 have ec:bF (.op .ne (.comp (.nm 3) (.lst (.var 1)) .no (.un .len (.var 3))) (.op .mul (.lst (.cons (.op .add (.var 0) (.int 2)) .nil)) (.op .add (.var 0) (.int 2)))) (bx [.fz (iN n),.fz (g9 L),.no,.no])=some (.bl (!decide (L.map lZ=aG (n+2) (n+2)))) :=
  bu ((d9 (eJ (ah rfl)) (dC iL (fun l=>iN l.length) L fun l _=>⟨_,rfl,kC,fC (ah rfl) gP⟩)).trans (by rw [jq])) (bu (cE (ao (bu (ah rfl) bb (d_ (b:=2))) aJ)) (bu (ah rfl) bb (d_ (b:=2))) (LO (by omega))) Ur
 refine bc ?_
 unfold qf
 by_cases h:L.map lZ=aG (n+2) (n+2)
 ·rw [decide_eq_true h] at ec ⊢
  obtain ⟨h1,h2⟩:=(tH n L).mp h
  have z0:(L.getD 0 []).length=n+2:=jw (by omega) h2
  have z1:(L.getD (n+1) []).length=n+2:=jw (by omega) h2
  have i0:∀s:eA,fv s 1=some (g9 L)→bF (.ix (.var 1) (.int 0)) s=some (iL (L.getD 0 [])):=fun s hs=>fE (ah hs) bb (Vu (k:=0) (by omega))
  have i1:∀s:eA,fv s 0=some (iN n)→fv s 1=some (g9 L)→bF (.ix (.var 1) (.op .add (.var 0) (.int 1))) s=some (iL (L.getD (n+1) [])):=fun s h0 hs=>fE (ah hs) (bu (ah h0) bb (d_ (b:=1))) (Vu (by omega))
  have e2:bF (.lst (.cons (.ix (.ix (.var 1) (.int 0)) (.int 0)) (.cons (.ix (.ix (.var 1) (.int 0)) (.op .add (.var 0) (.int 1))) (.cons (.ix (.ix (.var 1) (.op .add (.var 0) (.int 1))) (.int 0)) (.cons (.ix (.ix (.var 1) (.op .add (.var 0) (.int 1))) (.op .add (.var 0) (.int 1))) .nil))))) (view (freeze [] [.fz (iN n),.fz (g9 L),.no,.no]))=some (iL (Cz n L)) :=
   (cE (ao (fE (i0 _ rfl) bb (jo (i:=0) (by omega))) (ao (fE (i0 _ rfl) (bu (ah rfl) bb (d_ (b:=1))) (jo (by omega))) (ao (fE (i1 _ rfl rfl) bb (jo (i:=0) (by omega))) (ao (fE (i1 _ rfl rfl) (bu (ah rfl) bb (d_ (b:=1))) (jo (by omega))) aJ))))).trans rfl
  exact (bX ec).trans ((cH e2).trans (aU (bu (ah rfl) (bu (cE (ao bW aJ)) bb (LO (x:=32) (k:=4) (by omega))) Uq)))
 ·rw [decide_eq_false h] at ec ⊢
  exact (bG ec (aU JE)).trans rfl
noncomputable def mf:List D→Option D:=kd (fun x:Nat×List (List Nat)=>[iN x.1,g9 x.2]) (fun x=>x.1≤4) (fun x=>.bl (qf x.1 x.2))
theorem EM {n:Nat} {L:List (List Nat)} (hn:n≤4):mf [iN n,g9 L]=some (.bl (qf n L)) :=
 b0 (x:=(n,L)) hn fun y h hy=>by
  obtain ⟨a,c⟩:=y
  injection h with h1 h;injection h with h2 h
  rw [cy h1,qJ h2]
theorem EO:∀ds d,mf ds=some d→bN 4 oH ds=some d:=fun ds d h=>by
 obtain ⟨x,rfl,hp,rfl⟩:=bf h
 exact CA hp
def mid {α:Type} (n:Nat) (l:List α):List α:=(l.drop 1).take n
theorem GL {l:List Nat} {n:Nat} (h:l.length=n+2):J6 (iL l) (some 1) (some ((n+1:Nat):Int))=some (iL (mid n l)):=by
 have e:J6 (iL l) (some 1) (some ((n+1:Nat):Int))=some (.lst (((l.map iN).drop (min 1 (l.map iN).length)).take (min (n+1) (l.map iN).length - min 1 (l.map iN).length))):=rfl
 rw [e,af,h,e_ (by omega),e_ (by omega),OK,←pA,←pz]
 rfl
theorem CB {l:List (List Nat)} {n:Nat} (h:l.length=n+2):J6 (g9 l) (some 1) (some ((n+1:Nat):Int))=some (g9 (mid n l)):=by
 have e:J6 (g9 l) (some 1) (some ((n+1:Nat):Int))=some (.lst (((l.map iL).drop (min 1 (l.map iL).length)).take (min (n+1) (l.map iL).length - min 1 (l.map iL).length))):=rfl
 rw [e,af,h,e_ (by omega),e_ (by omega),OK,←pA,←pz]
 rfl
theorem iW {α:Type} {n:Nat} {l:List α} {x:α} (h:x∈mid n l):x∈l:=List.mem_of_mem_drop (sv h)
noncomputable def kP:Ss:=(.cons (.ext 2 (.call "read_signs" ip (.cons (.var 0) (.cons (.sl (.var 3) (.yes (.int 1)) (.yes (.op .add (.var 0) (.int 1)))) .nil))) []) .nil)
noncomputable def lj:Ss:=(.cons (.own 2 (.lst .nil) []) (.cons (.jk (.nm 3) (.lst (.sl (.var 1) (.yes (.int 1)) (.yes (.op .add (.var 0) (.int 1))))) [] kP) (.cons (.ret (.var 2) [2]) .nil)))
def i4 (n:Nat) (L:List (List Nat)):List Int:=(mid n L).flatMap fun l=>(mid n l).map (sgn n)
theorem BD (f:List Nat→List Int):∀(L:List (List Nat)) (acc:List Int),L.foldl (fun acc l=>acc++f l) acc=acc++L.flatMap f
 | [],acc=>by simp
 | l::L,acc=>by rw [b9,BD f L,b_,de]
theorem yA {n:Nat} {L:List (List Nat)} (hn:n≤4) (hL:Form n L):bN 4 lj [iN n,g9 L]=some (GK (i4 n L)):=by
 have hz:(1000:Nat)≤sizeLine:=by decide
 obtain ⟨s',h,_,_,x,rfl⟩:=dD (t:=.nm 3) (body:=cg kP) iL (fun acc l=>acc++(mid n l).map (sgn n))
  (fun b r s=>b.length+r.length*4≤100∧(∀l∈r,l.length=n+2)∧∃x,s=[.fz (iN n),.fz (g9 L),.ow (b.map D.int),x])
  (fun b l r s ⟨hb,hr,x,hs⟩=>by
   subst hs
   rw [ay] at hb
   have hl:=hr l (by simp)
   have e1:bF (.call "read_signs" ip (.cons (.var 0) (.cons (.sl (.var 3) (.yes (.int 1)) (.yes (.op .add (.var 0) (.int 1)))) .nil))) (view (freeze [] [.fz (iN n),.fz (g9 L),.ow (b.map D.int),.fz (iL l)]))=some (GK ((mid n l).map (sgn n))) :=
    aL (ao (ah rfl) (ao (En (ah rfl) (pb bb) (pb (bu (ah rfl) bb (d_ (b:=1)))) (GL hl)) aJ)) (rJ n (mid n l))
   have hm:(mid n l).length≤4:=by unfold mid;rw [c0];omega
   refine ⟨_,[.fz (iN n),.fz (g9 L),.ow ((b++(mid n l).map (sgn n)).map D.int),.fz (iL l)],rfl,?_,by rw [ax,af];omega,fun t ht=>hr t (by simp [ht]),_,rfl⟩
   refine (ye e1 ?_).trans rfl
   show (if (b.map D.int).length+(((mid n l).map (sgn n)).map D.int).length≤sizeLine then some _ else none)=_
   rw [if_pos (by rw [af,af,af];omega),bo]
   rfl) (mid n L) [] [.fz (iN n),.fz (g9 L),.ow [],.no] ⟨by
    have:(mid n L).length≤n:=by unfold mid;rw [c0];omega
    simp;omega,fun l hl=>hL.2 l (iW hl),.no,rfl⟩
 rw [BD,eZ] at h
 exact bc ((oA (cE aJ)).trans ((eV (eJ (En (ah rfl) (pb bb) (pb (bu (ah rfl) bb (d_ (b:=1)))) (CB hL.1))) h).trans (aU (ah rfl))))
noncomputable def jx:List D→Option D:=kd (fun x:Nat×List (List Nat)=>[iN x.1,g9 x.2]) (fun x=>x.1≤4∧Form x.1 x.2) (fun x=>GK (i4 x.1 x.2))
theorem Af {n:Nat} {L:List (List Nat)} (hn:n≤4) (hL:Form n L):jx [iN n,g9 L]=some (GK (i4 n L)) :=
 b0 (x:=(n,L)) ⟨hn,hL⟩ fun y h hy=>by
  obtain ⟨a,c⟩:=y
  injection h with h1 h;injection h with h2 h
  rw [cy h1,qJ h2]
theorem Ag:∀ds d,jx ds=some d→bN 4 lj ds=some d:=fun ds d h=>by
 obtain ⟨x,rfl,hp,rfl⟩:=bf h
 exact yA hp.1 hp.2
noncomputable def ll:Ss:=(.cons (.asg 2 (.sl (.ix (.var 1) (.int 0)) (.yes (.int 1)) (.yes (.op .add (.var 0) (.int 1)))) []) (.cons (.asg 3 (.comp (.nm 6) (.lst (.sl (.var 1) (.yes (.int 1)) (.yes (.op .add (.var 0) (.int 1))))) .no (.ix (.var 6) (.op .add (.var 0) (.int 1)))) []) (.cons (.asg 4 (.sl (.ix (.var 1) (.op .add (.var 0) (.int 1))) (.yes (.int 1)) (.yes (.op .add (.var 0) (.int 1)))) []) (.cons (.asg 5 (.comp (.nm 6) (.lst (.sl (.var 1) (.yes (.int 1)) (.yes (.op .add (.var 0) (.int 1))))) .no (.ix (.var 6) (.int 0))) []) (.cons (.ret (.call "read_signs" ip (.cons (.var 0) (.cons (.op .add (.op .add (.op .add (.var 2) (.var 3)) (.var 4)) (.var 5)) .nil))) []) .nil)))))
def eG (n:Nat) (L:List (List Nat)):List Nat:=mid n (L.getD 0 [])++(mid n L).map (fun l=>l.getD (n+1) 0)++mid n (L.getD (n+1) [])++(mid n L).map (fun l=>l.getD 0 0)
theorem yB {n:Nat} {L:List (List Nat)} (hn:n≤4) (hL:Form n L):bN 7 ll [iN n,g9 L]=some (GK ((eG n L).map (sgn n))):=by
 obtain ⟨h1,h2⟩:=hL
 have z0:(L.getD 0 []).length=n+2:=jw (by omega) h2
 have z1:(L.getD (n+1) []).length=n+2:=jw (by omega) h2
 have hm:∀l:List Nat,(mid n l).length≤4:=fun l=>by unfold mid;rw [c0];omega
 have hM:(mid n L).length≤4:=by unfold mid;rw [c0];omega
 have y1:∀ρ:eA,fv ρ 0=some (iN n)→J7 (.yes (.op .add (.var 0) (.int 1))) ρ=some (some ((n+1:Nat):Int)):=fun ρ h=>pb (bu (ah h) bb (d_ (b:=1)))
 have a2:bF (.sl (.ix (.var 1) (.int 0)) (.yes (.int 1)) (.yes (.op .add (.var 0) (.int 1)))) (view (freeze [] [.fz (iN n),.fz (g9 L),.no,.no,.no,.no,.no]))=some (iL (mid n (L.getD 0 []))) :=
  En (fE (ah rfl) bb (Vu (k:=0) (by omega))) (pb bb) (y1 _ rfl) (GL z0)
 have a3:bF (.comp (.nm 6) (.lst (.sl (.var 1) (.yes (.int 1)) (.yes (.op .add (.var 0) (.int 1))))) .no (.ix (.var 6) (.op .add (.var 0) (.int 1)))) (view (freeze [] [.fz (iN n),.fz (g9 L),.fz (iL (mid n (L.getD 0 []))),.no,.no,.no,.no]))=some (iL ((mid n L).map fun l=>l.getD (n+1) 0)) :=
  (d9 (eJ (En (ah rfl) (pb bb) (y1 _ rfl) (CB h1))) (dC iL (fun l=>iN (l.getD (n+1) 0)) (mid n L) fun l hl=>⟨_,rfl,kC,fE (ah rfl) (bu (ah rfl) bb (d_ (b:=1))) (jo (by rw [h2 l (iW hl)];omega))⟩)).trans (by rw [jq])
 have a4:bF (.sl (.ix (.var 1) (.op .add (.var 0) (.int 1))) (.yes (.int 1)) (.yes (.op .add (.var 0) (.int 1)))) (view (freeze [] [.fz (iN n),.fz (g9 L),.fz (iL (mid n (L.getD 0 []))),.fz (iL ((mid n L).map fun l=>l.getD (n+1) 0)),.no,.no,.no]))=some (iL (mid n (L.getD (n+1) []))) :=
  En (fE (ah rfl) (bu (ah rfl) bb (d_ (b:=1))) (Vu (by omega))) (pb bb) (y1 _ rfl) (GL z1)
 have a5:bF (.comp (.nm 6) (.lst (.sl (.var 1) (.yes (.int 1)) (.yes (.op .add (.var 0) (.int 1))))) .no (.ix (.var 6) (.int 0))) (view (freeze [] [.fz (iN n),.fz (g9 L),.fz (iL (mid n (L.getD 0 []))),.fz (iL ((mid n L).map fun l=>l.getD (n+1) 0)),.fz (iL (mid n (L.getD (n+1) []))),.no,.no]))=some (iL ((mid n L).map fun l=>l.getD 0 0)) :=
  (d9 (eJ (En (ah rfl) (pb bb) (y1 _ rfl) (CB h1))) (dC iL (fun l=>iN (l.getD 0 0)) (mid n L) fun l hl=>⟨_,rfl,kC,fE (ah rfl) bb (jo (i:=0) (by rw [h2 l (iW hl)];omega))⟩)).trans (by rw [jq])
 have m0:=hm (L.getD 0 [])
 have m1:=hm (L.getD (n+1) [])
 refine bc ((cH a2).trans ((cH a3).trans ((cH a4).trans ((cH a5).trans (aU (aL (ao (ah rfl) (ao (bu (bu (bu (ah rfl) (ah rfl) (l7 ?_)) (ah rfl) (l7 ?_)) (ah rfl) (l7 ?_)) aJ)) (rJ n _)))))))
 ·rw [af];omega
 ·rw [ax,af];omega
 ·rw [ax,ax,af,af];omega
noncomputable def jy:List D→Option D:=kd (fun x:Nat×List (List Nat)=>[iN x.1,g9 x.2]) (fun x=>x.1≤4∧Form x.1 x.2) (fun x=>GK ((eG x.1 x.2).map (sgn x.1)))
theorem Ah {n:Nat} {L:List (List Nat)} (hn:n≤4) (hL:Form n L):jy [iN n,g9 L]=some (GK ((eG n L).map (sgn n))) :=
 b0 (x:=(n,L)) ⟨hn,hL⟩ fun y h hy=>by
  obtain ⟨a,c⟩:=y
  injection h with h1 h;injection h with h2 h
  rw [cy h1,qJ h2]
theorem Ai:∀ds d,jy ds=some d→bN 7 ll ds=some d:=fun ds d h=>by
 obtain ⟨x,rfl,hp,rfl⟩:=bf h
 exact yB hp.1 hp.2
end Tn
namespace Tn
open PySem Mi
def val (n b:Nat):Nat:=(fW n b).getD 0
def DC (n b:Nat):Bool:=(fW n b).isSome
theorem Q_ {n b:Nat} (h:DC n b=true):sgn n b=(val n b:Int):=by
 unfold DC at h
 unfold sgn val
 cases e:fW n b with
 | none=>rw [e] at h;cases h
 | some v=>rfl
theorem LP {n b:Nat}:sgn n b=-1 ↔ DC n b=false:=by
 unfold sgn DC
 cases e:fW n b with
 | none=>simp
 | some v=>simp
theorem CC {n b:Nat}:val n b≤n:=by
 unfold val fW
 split
 ·simp
 ·split
  ·simp;omega
  ·simp
theorem xj (n:Nat):∀l:List Nat,l.mapM (fW n)=if l.all (DC n)=true then some (l.map (val n)) else none
 | []=>rfl
 | a::l=>by
  rw [List.mapM_cons,xj n l,dk]
  unfold DC val
  cases e:fW n a with
  | none=>rfl
  | some v =>
   cases h:l.all (fun b=>(fW n b).isSome) with
   | true=>simp [e]
   | false=>simp
theorem CD {n:Nat} {l:List Nat}:(-1:Int)∈l.map (sgn n) ↔ l.all (DC n)=false:=by
 rw [ba]
 constructor
 ·rintro ⟨b,hb,e⟩
  rw [←pK,aX]
  intro h
  have:=h b hb
  rw [LP.mp e] at this
  cases this
 ·intro h
  rw [←pK,aX] at h
  simp only [Classical.not_forall] at h
  obtain ⟨b,hb,h⟩:=h
  exact ⟨b,hb,LP.mpr (by simpa using h)⟩
theorem Il {n:Nat} {l:List Nat} (h:l.all (DC n)=true):l.map (sgn n)=(l.map (val n)).map fun x:Nat=>(x:Int):=by
 rw [a8]
 apply bQ
 intro b hb
 exact Q_ (aX.mp h b hb)
theorem ends {α:Type} (d:α):∀{l:List α} {n:Nat},l.length=n+2→l=l.getD 0 d::(mid n l++[l.getD (n+1) d])
 | [],n,h=>by simp at h
 | a::r,n,h=>by
  have hr:r.length=n+1:=by simpa using h
  show a::r=a::((r.take n)++[r.getD n d])
  congr 1
  have hg:r[n]?=some (r.getD n d):=by rw [aj,au (by omega)];rfl
  have:r.take (n+1)=r.take n++[r.getD n d]:=by rw [OJ,hg];rfl
  rw [←this,dR (by omega)]
theorem mQ {α:Type} {l:List α} {n:Nat} (h:l.length=n+2):(mid n l).length=n:=by
 unfold mid;rw [c0,zS];omega
theorem getD_map {α β:Type} (f:α→β) {l:List α} {i:Nat} {d:α} {e:β} (h:i < l.length):(l.map f).getD i e=f (l.getD i d):=by
 rw [aj,b8,au h,aj,au h];rfl
theorem LQ {l:List Nat} {n x:Nat} (h:l.length=n+2) (hx:x < n):(mid n l).getD x 0=l.getD (1+x) 0:=by
 unfold mid
 rw [aj,List.getElem?_take,if_pos hx,List.getElem?_drop,←aj]
theorem tJ {l:List Nat} {m:Nat} (h:l.length=m):l=(aq m).map fun p=>l.getD p 0:=by
 apply ky
 intro j
 rw [b8]
 by_cases hj:j < m
 ·rw [mw hj,au (by omega)]
  show _=some (l.getD j 0)
  rw [aj,au (by omega)];rfl
 ·rw [bY (by omega),bY (by rw [aP];omega)];rfl
section
variable {n:Nat} {L:List (List Nat)}
def yC (n:Nat) (L:List (List Nat)):List Nat:=(mid n L).flatten.map (val n)
theorem ER (hL:Form n L) {y j:Nat} (hy:y < n) (hj:j < n+2):(yC n L).getD (y*(n+2)+j) 0=val n (((mid n L).getD y []).getD j 0):=by
 have hm:=mQ hL.1
 have e:yC n L=((mid n L).map fun l=>l.map (val n)).flatten:=by unfold yC;rw [List.map_flatten]
 have hl:∀l∈(mid n L).map fun l=>l.map (val n),l.length=n+2:=fun l hl=>by
  obtain ⟨q,hq,rfl⟩:=ba.mp hl
  rw [af];exact hL.2 q (iW hq)
 obtain ⟨_,h2⟩:=iM (k:=y) (i:=j) hl (by rw [af,hm];exact hy) hj
 rw [e,h2,getD_map (fun l=>l.map (val n)) (d:=[]) (by rw [hm];exact hy)]
 exact getD_map (val n) (d:=0) (by rw [jw (m:=n+2) (by rw [hm];exact hy) fun l hl=>hL.2 l (iW hl)];exact hj)
theorem Im (h1:1≤n) (hL:Form n L):((aq (n*n)).map fun p=>(yC n L).getD (p / n*(n+2)+1+p % n) 0)=(mid n L).flatMap fun l=>(mid n l).map (val n):=by
 have hm:=mQ hL.1
 have hl:∀l∈(mid n L).map fun l=>(mid n l).map (val n),l.length=n:=fun l hl=>by
  obtain ⟨q,hq,rfl⟩:=ba.mp hl
  rw [af];exact mQ (hL.2 q (iW hq))
 have hc:((mid n L).flatMap fun l=>(mid n l).map (val n))=((mid n L).map fun l=>(mid n l).map (val n)).flatten:=rfl
 have hlen:((mid n L).map fun l=>(mid n l).map (val n)).flatten.length=n*n:=by rw [iQ hl,af,hm]
 rw [hc,tJ hlen]
 apply bQ
 intro p hp
 rw [aS] at hp
 have hy:p / n < n:=MM hp
 have hx:p % n < n:=wM _ (by omega)
 obtain ⟨_,h2⟩:=iM (k:=p / n) (i:=p % n) hl (by rw [af,hm];exact hy) hx
 have hq:(mid n L).getD (p / n) []∈mid n L:=by
  rw [aj,au (by rw [hm];exact hy)]
  exact cS _
 have Xz:=hL.2 _ (iW hq)
 rw [vM,ER hL hy (by omega)]
 have e:p / n*n+p % n=p:=by rw [eM];exact Nat.div_add_mod p n
 rw [←e,h2,getD_map (fun l=>(mid n l).map (val n)) (d:=[]) (by rw [hm];exact hy),getD_map (val n) (d:=0) (by rw [mQ Xz];exact hx),LQ Xz hx]
 rw [e]
theorem xk (hL:Form n L) {j:Nat} (hj:j < n+2):((aq n).map fun y=>(yC n L).getD (y*(n+2)+j) 0)=(mid n L).map fun l=>val n (l.getD j 0):=by
 have hm:=mQ hL.1
 have hlen:((mid n L).map fun l=>val n (l.getD j 0)).length=n:=by rw [af,hm]
 rw [tJ hlen]
 apply bQ
 intro y hy
 rw [aS] at hy
 rw [ER hL hy hj,getD_map (fun l=>val n (l.getD j 0)) (d:=[]) (by rw [hm];exact hy)]
def vG (n:Nat) (L:List (List Nat)):Bool:=(mid n (L.getD 0 [])).all (DC n)&&((mid n (L.getD (n+1) [])).all (DC n)&&(mid n L).flatten.all (DC n))
theorem tK (hL:Form n L):vG n L=true ↔ ((-1:Int) ∉ i4 n L∧(-1:Int) ∉ (eG n L).map (sgn n)):=by
 have ec:i4 n L=((mid n L).flatMap (mid n)).map (sgn n):=by unfold i4;rw [pJ]
 rw [ec,CD,CD,iz,iz]
 unfold vG eG
 simp only [List.all_append,ag,aX,ba,gA,PB]
 constructor
 ·rintro ⟨h1,h2,h3⟩
  refine ⟨?_,⟨⟨h1,?_⟩,h2⟩,?_⟩
  ·rintro b ⟨l,hl,hb⟩
   exact h3 b ⟨l,hl,iW hb⟩
  ·rintro b ⟨l,hl,rfl⟩
   refine h3 _ ⟨l,hl,?_⟩
   have:=hL.2 l (iW hl)
   rw [aj,au (by omega)]
   exact cS _
  ·rintro b ⟨l,hl,rfl⟩
   refine h3 _ ⟨l,hl,?_⟩
   have:=hL.2 l (iW hl)
   rw [aj,au (by omega)]
   exact cS _
 ·rintro ⟨h1,⟨⟨h2,h3⟩,h4⟩,h5⟩
  refine ⟨h2,h4,?_⟩
  rintro b ⟨l,hl,hb⟩
  rw [ends 0 (hL.2 l (iW hl))] at hb
  rcases aF.mp hb with rfl|hb
  ·exact h5 _ ⟨l,hl,rfl⟩
  ·rcases bE.mp hb with hb|hb
   ·exact h1 b ⟨l,hl,hb⟩
   ·rw [bZ] at hb
    subst hb
    exact h3 _ ⟨l,hl,rfl⟩
theorem CF {α:Type} (d:α) (l:List α):l.headD d=l.getD 0 d:=by cases l<;>rfl
theorem last_eq {α:Type} (d:α) {l:List α} {n:Nat} (h:l.length=n+2):l.getLastD d=l.getD (n+1) d:=by
 have e:l.getLast?=some (l.getD (n+1) d):=by
  rw [List.getLast?_eq_getElem?,h,aj,show n+2 - 1=n+1 by omega,au (by omega)];rfl
 rw [FH,e];rfl
theorem xm {l:List Nat} (h:l.length=n+2):j_ n l=if l.getD 0 0=32∧l.getD (n+1) 0=32 then (if (mid n l).all (DC n)=true then some ((mid n l).map (val n)) else none) else none:=by
 unfold j_
 rw [CF,last_eq 0 h]
 by_cases hc:l.getD 0 0=32∧l.getD (n+1) 0=32
 ·rw [if_pos ⟨h,hc.1,hc.2⟩,if_pos hc]
  exact xj n (mid n l)
 ·rw [if_neg (fun z=>hc z.2),if_neg hc]
theorem Io {l:List Nat} (h:¬l.length=n+2):j_ n l=none:=by
 unfold j_
 rw [if_neg (fun z=>h z.1)]
theorem BE {b:List Nat} (hb:L=fq b) (hL:Form n L):eO n b=match j_ n (L.getD 0 []),j_ n (L.getD (n+1) []),(mid n L).flatten.mapM (fW n) with
  | some u,some d,some v=>some ((aq (n*n)).map fun p=>v.getD (p / n*(n+2)+1+p % n) 0,[u,(aq n).map fun y=>v.getD (y*(n+2)+n+1) 0,d,(aq n).map fun y=>v.getD (y*(n+2)) 0])
  | _,_,_=>none:=by
 unfold eO
 simp only []
 rw [←hb,if_neg (fun z=>z hL.1),if_neg,CF,last_eq [] hL.1]
 ·rfl
 ·rw [iz,aX]
  intro l hl
  rw [beq_iff_eq]
  exact hL.2 l (iW hl)
theorem ES {b:List Nat} (h1:1≤n) (h4:n≤4) (hb:L=fq b) (hf:qf n L=true) (hg:vG n L=true) :
  ∃x,eO n b=some x∧i4 n L=x.1.map (fun a:Nat=>(a:Int))∧(eG n L).map (sgn n)=x.2.flatten.map (fun a:Nat=>(a:Int))∧cP ⟨n,x.1,x.2⟩:=by
 unfold qf at hf
 rw [ag,decide_eq_true_eq,decide_eq_true_eq] at hf
 have hL:=(tH n L).mp hf.1
 have z0:(L.getD 0 []).length=n+2:=jw (by have:=hL.1;omega) hL.2
 have z1:(L.getD (n+1) []).length=n+2:=jw (by have:=hL.1;omega) hL.2
 have Of:=hf.2
 unfold Cz at Of
 injection Of with c1 Of
 injection Of with c2 Of
 injection Of with c3 Of
 injection Of with c4 Of
 have YA:=hg
 unfold vG at hg
 rw [ag,ag] at hg
 obtain ⟨g1,g2,g3⟩:=hg
 have hm:=mQ hL.1
 rw [BE hb hL,xm z0,if_pos ⟨c1,c2⟩,if_pos g1,xm z1,if_pos ⟨c3,c4⟩,if_pos g2,xj,if_pos g3]
 refine ⟨_,rfl,?_,?_,?_⟩
 ·show i4 n L=((aq (n*n)).map fun p=>(yC n L).getD (p / n*(n+2)+1+p % n) 0).map _
  rw [Im h1 hL]
  have e1:i4 n L=((mid n L).flatMap (mid n)).map (sgn n):=by unfold i4;rw [pJ]
  have e2:((mid n L).flatMap fun l=>(mid n l).map (val n))=((mid n L).flatMap (mid n)).map (val n):=by rw [pJ]
  rw [e1,e2]
  apply Il
  have:=((tK hL).mp YA).1
  rw [e1,CD,iz] at this
  exact this
 ·have hk:(eG n L).all (DC n)=true:=by
   have:=((tK hL).mp YA).2
   rw [CD,iz] at this
   exact this
  rw [Il hk]
  congr 1
  show (eG n L).map (val n)=[(mid n (L.getD 0 [])).map (val n),(aq n).map fun y=>(yC n L).getD (y*(n+2)+n+1) 0,(mid n (L.getD (n+1) [])).map (val n),(aq n).map fun y=>(yC n L).getD (y*(n+2)) 0].flatten
  have s1:=xk hL (j:=n+1) (by omega)
  have s0:=xk hL (j:=0) (by omega)
  simp only [kH] at s0
  simp only [←vM] at s1
  rw [s1,s0]
  unfold eG
  simp only [bo,a8,bz,Pz,fT,de]
  rfl
 ·refine ⟨h1,h4,by rw [af,aP],?_,rfl,?_,?_⟩
  ·intro x hx
   show x≤n
   have hx:x∈(aq (n*n)).map fun p=>(yC n L).getD (p / n*(n+2)+1+p % n) 0:=hx
   rw [Im h1 hL,gA] at hx
   obtain ⟨l,_,hx⟩:=hx
   obtain ⟨c,_,rfl⟩:=ba.mp hx
   exact CC
  ·intro l hl
   show l.length=n
   simp only [aF,bS,or_false] at hl
   rcases hl with rfl|rfl|rfl|rfl
   ·rw [af,mQ z0]
   ·rw [af,aP]
   ·rw [af,mQ z1]
   ·rw [af,aP]
  ·intro l hl x hx
   show x≤n
   have s1:=xk hL (j:=n+1) (by omega)
   have s0:=xk hL (j:=0) (by omega)
   simp only [kH] at s0
   simp only [←vM] at s1
   have hv:∀l:List Nat,∀x∈l.map (val n),x≤n:=fun l x hx=>by
    obtain ⟨c,_,rfl⟩:=ba.mp hx
    exact CC
   simp only [aF,bS,or_false] at hl
   rcases hl with rfl|rfl|rfl|rfl
   ·exact hv _ x hx
   ·have hx:x∈(aq n).map fun y=>(yC n L).getD (y*(n+2)+n+1) 0:=hx
    rw [s1] at hx
    obtain ⟨c,_,rfl⟩:=ba.mp hx
    exact CC
   ·exact hv _ x hx
   ·have hx:x∈(aq n).map fun y=>(yC n L).getD (y*(n+2)) 0:=hx
    rw [s0] at hx
    obtain ⟨c,_,rfl⟩:=ba.mp hx
    exact CC
theorem LR {b:List Nat} (hb:L=fq b) (hL:¬Form n L):eO n b=none:=by
 unfold eO
 simp only []
 rw [←hb]
 by_cases h1:L.length=n+2
 ·rw [if_neg (fun z=>z h1)]
  by_cases h2:((L.drop 1).take n).all (fun x=>x.length == n+2)=false
  ·rw [if_pos h2]
  ·rw [if_neg h2,CF,last_eq [] h1]
   rw [iz,aX] at h2
   by_cases h3:(L.getD 0 []).length=n+2
   ·by_cases h4:(L.getD (n+1) []).length=n+2
    ·refine absurd ⟨h1,fun l hl=>?_⟩ hL
     rw [ends [] h1] at hl
     rcases aF.mp hl with rfl|hl
     ·exact h3
     ·rcases bE.mp hl with hl|hl
      ·exact beq_iff_eq.mp (h2 l hl)
      ·rw [bZ] at hl
       subst hl
       exact h4
    ·rw [Io h4]
     cases j_ n (L.getD 0 [])<;>rfl
   ·rw [Io h3]
 ·rw [if_pos h1]
theorem CG {b:List Nat} (hb:L=fq b) (h:¬(qf n L=true∧vG n L=true)):eO n b=none:=by
 by_cases hL:Form n L
 ·have z0:(L.getD 0 []).length=n+2:=jw (by have:=hL.1;omega) hL.2
  have z1:(L.getD (n+1) []).length=n+2:=jw (by have:=hL.1;omega) hL.2
  rw [BE hb hL,xm z0,xm z1,xj]
  by_cases c1:(L.getD 0 []).getD 0 0=32∧(L.getD 0 []).getD (n+1) 0=32
  ·rw [if_pos c1]
   by_cases g1:(mid n (L.getD 0 [])).all (DC n)=true
   ·rw [if_pos g1]
    by_cases c2:(L.getD (n+1) []).getD 0 0=32∧(L.getD (n+1) []).getD (n+1) 0=32
    ·rw [if_pos c2]
     by_cases g2:(mid n (L.getD (n+1) [])).all (DC n)=true
     ·rw [if_pos g2]
      by_cases g3:(mid n L).flatten.all (DC n)=true
      ·refine absurd ⟨?_,?_⟩ h
       ·unfold qf
        rw [ag,decide_eq_true_eq,decide_eq_true_eq]
        refine ⟨(tH n L).mpr hL,?_⟩
        unfold Cz
        rw [c1.1,c1.2,c2.1,c2.2]
       ·unfold vG
        rw [g1,g2,g3];rfl
      ·rw [if_neg g3]
     ·rw [if_neg g2]
    ·rw [if_neg c2]
   ·rw [if_neg g1]
  ·rw [if_neg c1]
 ·exact LR hb hL
end
end Tn
namespace Xa
open Kh321 Tn
theorem yD:∀(l:List Nat) (s j:Nat),(l.foldl (fun s h=>if s.testBit (h - 1) then s else s+2 ^ (h - 1)) s).testBit j=true ↔ s.testBit j=true∨∃x∈l,x - 1=j
 | [],s,j=>by simp
 | x::l,s,j=>by
  rw [b9,yD l,LA,ua,cZ,gy,decide_eq_true_eq]
  constructor
  ·rintro ((h|h)|⟨y,h1,h2⟩)
   ·exact .inl h
   ·exact .inr ⟨x,by simp,h⟩
   ·exact .inr ⟨y,by simp [h1],h2⟩
  ·rintro (h|⟨y,h1,h2⟩)
   ·exact .inl (.inl h)
   ·rcases aF.mp h1 with rfl|h1
    ·exact .inl (.inr h2)
    ·exact .inr ⟨y,h1,h2⟩
theorem LS {l:List Nat} {x h:Nat} (hx:x∈l) (h1:∀y∈l,1≤y):bits l=2 ^ h ↔ h+1=x∧∀y∈l,y=x:=by
 constructor
 ·intro e
  have hb:∀y∈l,y=h+1:=fun y hy=>by
   have:(bits l).testBit (y - 1)=true:=by unfold bits;rw [yD];exact .inr ⟨y,hy,rfl⟩
   rw [e,gy,decide_eq_true_eq] at this
   have:=h1 y hy
   omega
  exact ⟨(hb x hx).symm,fun y hy=>by rw [hb y hy,hb x hx]⟩
 ·rintro ⟨rfl,ha⟩
  apply ub
  intro j
  rw [gy,dX]
  unfold bits
  rw [yD,decide_eq_true_eq]
  constructor
  ·rintro (h|⟨y,hy,rfl⟩)
   ·simp at h
   ·rw [ha y hy];rfl
  ·rintro rfl
   exact .inr ⟨h+1,hx,rfl⟩
theorem LU {α:Type} (f:Nat→Option α) {n k:Nat} (hk:k < n) (h:∀j,j≠k→f j=none):(aq n).findSome? f=f k:=by
 cases hf:f k with
 | none =>
  rw [DE]
  intro j _
  by_cases hj:j=k
  ·rw [hj];exact hf
  ·exact h j hj
 | some a =>
  have:∀l:List Nat,k∈l→l.findSome? f=some a:=fun l hl=>by
   induction l with
   | nil=>simp at hl
   | cons x l ih =>
    rw [c6]
    by_cases hx:x=k
    ·subst hx;rw [hf]
    ·rw [h x hx]
     exact ih (by rcases aF.mp hl with e|e;exact absurd e.symm hx;exact e)
  exact this _ (aS.mpr hk)
theorem GN {n c j:Nat} {q:List Nat} {l:List (List Nat)} (hr:∀w∈q::l,w.length=n∧∀x∈w,1≤x∧x≤n) (hj:j < n) :
  ((aq n).findSome? fun h=>if lineBits (q::l) j=2 ^ h then some (c,h+1) else none)=if hE q l j=true then some (c,tower q j) else none:=by
 have hm:∀w∈q::l,1≤tower w j∧tower w j≤n:=fun w hw=>by
  obtain ⟨e,h⟩:=hr w hw
  unfold tower
  rw [aj,au (by omega)]
  exact h _ (cS _)
 have hq:=hm q (by simp)
 have Ra:∀h,lineBits (q::l) j=2 ^ h ↔ h+1=tower q j∧∀y∈(q::l).map (fun l=>l.getD j 0),y=tower q j:=fun h =>
  LS (ba.mpr ⟨q,by simp,rfl⟩) fun y hy=>by
   obtain ⟨w,hw,rfl⟩:=ba.mp hy
   exact (hm w hw).1
 have hs:hE q l j=true ↔ ∀y∈(q::l).map (fun l=>l.getD j 0),y=tower q j:=by
  unfold hE
  rw [aX]
  constructor
  ·intro h y hy
   obtain ⟨w,hw,rfl⟩:=ba.mp hy
   exact beq_iff_eq.mp (h w hw)
  ·intro h w hw
   exact beq_iff_eq.mpr (h _ (ba.mpr ⟨w,hw,rfl⟩))
 rw [LU (k:=tower q j - 1) _ (by omega)]
 ·by_cases h:hE q l j=true
  ·rw [if_pos h,if_pos ((Ra _).mpr ⟨by omega,hs.mp h⟩)]
   congr 2
   omega
  ·rw [if_neg h,if_neg fun e=>h (hs.mpr ((Ra _).mp e).2)]
 ·intro h hh
  rw [if_neg fun e=>hh (by have:=((Ra _).mp e).1;omega)]
def tells (n:Nat) (t:Town) (c:Clues) (x:Nat×Nat):Option (Nat×Nat) :=
 (line n x.1 x.2).zipIdx.findSome? fun (z:Nat×Nat)=>if tower t z.1≠0 then none else (aq n).findSome? fun h=>if lineBits (lineWays n t c x.1 x.2) z.2=2 ^ h then some (z.1,h+1) else none
def dU (n:Nat):List (Nat×Nat):=(aq n).map (fun i=>(3,i))++(aq n).map fun i=>(0,i)
theorem Ip (n:Nat) (t:Town) (c:Clues):hint n t c=(dU n).findSome? (tells n t c):=rfl
theorem LV (n:Nat) (t:Town) (c:Clues):stuck n t c=(dU n).any fun x=>lineWays n t c x.1 x.2 == []:=by
 unfold stuck dU
 rw [List.any_append,IT,IT,dX,cZ,k6,k6,k6]
 constructor
 ·rintro ⟨i,hi,h⟩
  rcases cZ _ _▸h with h|h
  ·exact .inl ⟨i,hi,h⟩
  ·exact .inr ⟨i,hi,h⟩
 ·rintro (⟨i,hi,h⟩|⟨i,hi,h⟩)
  ·exact ⟨i,hi,by rw [show (lineWays n t c 3 i == [])=true from h];rfl⟩
  ·exact ⟨i,hi,by rw [show (lineWays n t c 0 i == [])=true from h,Bool.or_true]⟩
def rK:Option (Nat×Nat)→List Nat
 | some x=>[x.1,x.2]
 | none=>[]
theorem sg (f:Nat×Nat→Option (Nat×Nat)):∀(l:List (Nat×Nat)) (o:Option (Nat×Nat)),l.foldl (fun told x=>if told.length=0 then rK (f x) else told) (rK o)=rK (match o with|some x=>some x|none=>l.findSome? f)
 | [],none=>rfl
 | [],some _=>rfl
 | x::l,some y=>by
  rw [b9]
  exact sg f l (some y)
 | x::l,none=>by
  rw [b9]
  show l.foldl _ (rK (f x))=_
  rw [sg f l (f x),c6]
  cases f x<;>rfl
theorem GO {n:Nat} {t:Town} {c:Clues} {x:Nat×Nat} {y:Nat×Nat} (h:tells n t c x=some y):y.1∈line n x.1 x.2∧tower t y.1=0∧1≤y.2∧y.2≤n:=by
 unfold tells at h
 obtain ⟨z,hz,h⟩:=f7 h
 by_cases h0:tower t z.1≠0
 ·rw [if_pos h0] at h;cases h
 ·rw [if_neg h0] at h
  obtain ⟨k,hk,h⟩:=f7 h
  by_cases hb:lineBits (lineWays n t c x.1 x.2) z.2=2 ^ k
  ·rw [if_pos hb] at h
   cases h
   refine ⟨?_,by simpa using h0,by simp,by rw [aS] at hk;exact hk⟩
   have:=BS hz
   have h3:=this.2.2
   simp only [cn,J2] at h3
   exact MN h3.symm
  ·rw [if_neg hb] at h;cases h
theorem BF {n:Nat} {t:Town} {c:Clues} {y:Nat×Nat} (h:hint n t c=some y):(∃k i,i < n∧y.1∈line n k i)∧tower t y.1=0∧1≤y.2∧y.2≤n:=by
 rw [Ip] at h
 obtain ⟨x,hx,h⟩:=f7 h
 obtain ⟨h1,h2⟩:=GO h
 refine ⟨⟨x.1,x.2,?_,h1⟩,h2⟩
 unfold dU at hx
 rcases bE.mp hx with hx|hx
 ·obtain ⟨i,hi,rfl⟩:=ba.mp hx
  exact aS.mp hi
 ·obtain ⟨i,hi,rfl⟩:=ba.mp hx
  exact aS.mp hi
end Xa
namespace Xb
open Kh321
def z4 (n:Nat):Clues:=aG 4 (aG n 0)
theorem xn (n k i:Nat):clue (z4 n) k i=0:=by
 have h:∀(m i:Nat),(aG m (0:Nat)).getD i 0=0:=fun m i=>by
  rw [aj,pI]
  split<;>rfl
 unfold clue z4
 rw [aj (l:=aG 4 _),pI]
 split
 ·exact h n i
 ·rfl
def fit (n:Nat) (c:Clues) (w:Town) (k i:Nat):Bool:=clue c k i == 0||seenFrom n w k i == clue c k i
def rf (c:Clues) (y:Nat) (r:List Nat):Bool:=Tn.vE r (clue c 3 y) (clue c 1 y)
theorem Rb (n:Nat) (t:Town) (c:Clues) (y:Nat):lineWays n t c 3 y=(lineWays n t (z4 n) 3 y).filter (rf c y):=by
 unfold lineWays
 rw [fI]
 apply cV
 intro r _
 unfold goes
 rw [xn,xn]
 show (_&&rf c y r)=_
 cases rf c y r<;>simp
theorem qg {α β:Type} (p:α→Bool) (f:α→List β):∀l:List α,(l.filter p).flatMap f=l.flatMap fun a=>if p a=true then f a else []
 | []=>rfl
 | a::l=>by
  rw [c5,b_,←qg p f l]
  cases p a<;>simp
theorem yE {n:Nat} {t:Town} {c:Clues}:∀(m y:Nat) (l L:List (List Nat)),L∈rows n t c m y l→∃s,L=l++s
 | 0,y,l,L,h=>by
  unfold rows at h
  rw [bZ] at h
  exact ⟨[],by simp [h]⟩
 | m+1,y,l,L,h=>by
  unfold rows at h
  obtain ⟨r,_,h⟩:=gA.mp h
  obtain ⟨s,rfl⟩:=yE m (y+1) (l++[r]) L h
  exact ⟨r::s,by simp⟩
def pf (c:Clues) (y m:Nat) (L:List (List Nat)):Bool:=(aq m).all fun j=>rf c (y+j) (L.getD (y+j) [])
theorem Og (c:Clues) (y m:Nat) (L:List (List Nat)):pf c y (m+1) L=(rf c y (L.getD y [])&&pf c (y+1) m L):=by
 unfold pf
 rw [gU,dk,xD]
 congr 1
 congr 1
 funext j
 show rf c (y+(j+1)) (L.getD (y+(j+1)) [])=rf c (y+1+j) (L.getD (y+1+j) [])
 rw [show y+(j+1)=y+1+j by omega]
theorem LW (n:Nat) (t:Town) (c:Clues):∀(m y:Nat) (l:List (List Nat)),l.length=y→rows n t c m y l=(rows n t (z4 n) m y l).filter (pf c y m)
 | 0,y,l,_=>by
  unfold rows
  rfl
 | m+1,y,l,hl=>by
  unfold rows
  rw [List.filter_flatMap,Rb,fI]
  have e:(fun a=>(l.all fun q=>(q.zip a).all fun x=>x.1 != x.2)&&rf c y a)=fun a=>rf c y a&&(l.all fun q=>(q.zip a).all fun x=>x.1 != x.2):=by
   funext a;rw [FN]
  rw [e,←fI,qg]
  apply Wy.kb
  intro r _
  have ih:=LW n t c m (y+1) (l++[r]) (by simp [hl])
  rw [ih]
  have:∀L∈rows n t (z4 n) m (y+1) (l++[r]),pf c y (m+1) L=(rf c y r&&pf c (y+1) m L):=fun L hL=>by
   obtain ⟨s,rfl⟩:=yE m (y+1) (l++[r]) L hL
   rw [Og]
   congr 2
   rw [de,aj,iJ (by omega),hl,Nat.sub_self]
   rfl
  rw [cV this]
  cases rf c y r<;>simp
def ET (n:Nat) (c:Clues) (w:Town):Bool:=(aq n).all fun y=>fit n c w 3 y&&fit n c w 1 y
theorem LX {n y:Nat} {L:List (List Nat)} (hr:∀q∈L,q.length=n) (hy:y < L.length):seenFrom n L.flatten 3 y=seen 0 (L.getD y []):=by
 unfold seenFrom line
 rw [a8]
 have hq:(L.getD y []).length=n:=by
  rw [aj,au hy]
  exact hr _ (cS _)
 rw [Tn.tJ hq]
 congr 1
 apply bQ
 intro j hj
 rw [aS] at hj
 exact (Tn.iM hr hy hj).2
theorem JL {n y:Nat} {L:List (List Nat)} (h4:n≤4) (hr:∀q∈L,q.length=n) (hy:y < L.length):seenFrom n L.flatten 1 y=seen 0 (L.getD y []).reverse:=by
 unfold seenFrom line
 rw [a8]
 have hq:(L.getD y []).length=n:=by
  rw [aj,au hy]
  exact hr _ (cS _)
 rw [Tn.tJ hq,←gz,Tn.nZ h4,a8]
 congr 1
 apply bQ
 intro j hj
 rw [aS] at hj
 exact (Tn.iM hr hy (by omega)).2
theorem Rc (n:Nat) (w:Town):columns n (z4 n) w=true:=by
 unfold columns
 rw [aX]
 intro i _
 rw [xn,xn]
 rfl
def fits (n:Nat) (c:Clues) (w:Town):Bool:=(aq 4).all fun k=>(aq n).all fun i=>fit n c w k i
theorem Oh (n:Nat) (c:Clues) (w:Town):fits n c w=(columns n c w&&ET n c w):=by
 rw [dX,ag]
 unfold fits columns ET
 rw [aX,aX,aX]
 constructor
 ·intro h
  have h:=fun k hk=>aX.mp (h k hk)
  refine ⟨fun i hi=>?_,fun i hi=>?_⟩
  ·have h1:=h 0 (by decide) i hi
   have h2:=h 2 (by decide) i hi
   unfold fit at h1 h2
   rw [h1,h2];rfl
  ·rw [h 3 (by decide) i hi,h 1 (by decide) i hi];rfl
 ·rintro ⟨h1,h2⟩ k hk
  rw [aX]
  intro i hi
  have h1:=(ag _ _).mp (h1 i hi)
  have h2:=(ag _ _).mp (h2 i hi)
  rw [aS] at hk
  match k,hk with
  | 0,_=>exact h1.1
  | 1,_=>exact h2.2
  | 2,_=>exact h1.2
  | 3,_=>exact h2.1
theorem CH {n:Nat} {t:Town} (c:Clues) (h4:n≤4) (hr:∀L∈rows n t (z4 n) n 0 [],(∀q∈L,q.length=n)∧L.length=n):ways n t c=(ways n t (z4 n)).filter (fits n c):=by
 unfold ways
 rw [LW n t c n 0 [] rfl]
 rw [ML.mpr fun w _=>Rc n w]
 have e:(rows n t (z4 n) n 0 []).filter (pf c 0 n)=(rows n t (z4 n) n 0 []).filter (ET n c∘List.flatten):=by
  apply cV
  intro L hL
  obtain ⟨h1,h2⟩:=hr L hL
  unfold pf
  show _=ET n c L.flatten
  unfold ET
  rw [dX,aX,aX]
  have key:∀y∈aq n,rf c (0+y) (L.getD (0+y) [])=(fit n c L.flatten 3 y&&fit n c L.flatten 1 y):=fun y hy=>by
   rw [aS] at hy
   unfold fit
   rw [cn,LX h1 (by omega),JL h4 h1 (by omega)]
   rfl
  exact ⟨fun h y hy=>by rw [←key y hy];exact h y hy,fun h y hy=>by rw [key y hy];exact h y hy⟩
 rw [e,←jF,fI]
 apply cV
 intro w _
 rw [Oh]
theorem LY {c:Clues} {k i v a b:Nat} (hk:k < c.length) (hi:i < (c.getD k []).length):clue (setClue c k i v) a b=if a=k∧b=i then v else clue c a b:=by
 unfold clue setClue
 by_cases ha:a=k
 ·subst ha
  have e1:(c.set a ((c.getD a []).set i v)).getD a []=(c.getD a []).set i v:=by
   rw [aj,b6 hk];rfl
  rw [e1]
  by_cases hb:b=i
  ·subst hb
   rw [if_pos ⟨rfl,rfl⟩,aj,b6 hi];rfl
  ·rw [if_neg fun h=>hb h.2,aj,bg (Ne.symm hb),←aj]
 ·rw [if_neg fun h=>ha h.1]
  congr 1
  rw [aj,bg (Ne.symm ha),←aj]
theorem yF {n:Nat} {c:Clues} {w:Town}:fits n c w=true ↔ ∀k i,k < 4→i < n→fit n c w k i=true:=by
 unfold fits
 rw [aX]
 constructor
 ·intro h k i hk hi
  exact aX.mp (h k (aS.mpr hk)) i (aS.mpr hi)
 ·intro h k hk
  rw [aX]
  intro i hi
  exact h k i (aS.mp hk) (aS.mp hi)
theorem GP {α:Type} (p:α→Bool):∀l:List α,(l.filter p).length=l.length ↔ ∀a∈l,p a=true
 | l=>by rw [List.length_filter_eq_length_iff]
def hJ (n:Nat) (c:Clues) (w:Town):List Nat:=(aq (4*n)).filter fun z=>clue c (z / n) (z % n) != 0&&seenFrom n w (z / n) (z % n) != clue c (z / n) (z % n)
def kY (l:List Nat):List Nat:=if l.length=1 then l else []
theorem place {n k i:Nat} (hk:k < 4) (hi:i < n):k*n+i < 4*n∧(k*n+i) / n=k∧(k*n+i) % n=i:=by
 refine ⟨?_,?_,?_⟩
 ·have:(k+1)*n≤4*n:=mv n hk
  rw [gc,gW] at this
  omega
 ·rw [eM,Dx (by omega),lU hi,kH]
 ·rw [eM,Dy,A7 hi]
theorem sh {n z:Nat} (hn:1≤n) (hz:z < 4*n):z / n < 4∧z % n < n∧z / n*n+z % n=z :=
 ⟨by rw [Nat.div_lt_iff_lt_mul (by omega)];exact hz,wM _ (by omega),by rw [eM];exact Nat.div_add_mod z n⟩
theorem JM {n:Nat} {t:Town} {c:Clues} (hn:1≤n) (h4:n≤4) (hr:∀L∈rows n t (z4 n) n 0 [],(∀q∈L,q.length=n)∧L.length=n) (hc:c.length=4) (hl:∀l∈c,l.length=n) {z:Nat} (hz:z < 4*n) (h0:clue c (z / n) (z % n)≠0) :
  (ways n t (setClue c (z / n) (z % n) 0)).length=(ways n t c).length ↔ ¬∃w∈ways n t (z4 n),kY (hJ n c w)=[z]:=by
 obtain ⟨p1,p2,p3⟩:=sh hn hz
 have hk:z / n < c.length:=by omega
 have hi:z % n < (c.getD (z / n) []).length:=by
  rw [aj,au hk]
  rw [show (some c[z / n]).getD []=c[z / n] from rfl,hl _ (cS _)]
  exact p2
 have fs:∀w a b,fit n (setClue c (z / n) (z % n) 0) w a b=if a=z / n∧b=z % n then true else fit n c w a b:=fun w a b=>by
  unfold fit
  rw [LY hk hi]
  by_cases h:a=z / n∧b=z % n
  ·rw [if_pos h,if_pos h];rfl
  ·rw [if_neg h,if_neg h]
 have e:ways n t c=(ways n t (setClue c (z / n) (z % n) 0)).filter fun w=>fit n c w (z / n) (z % n):=by
  rw [CH c h4 hr,CH (setClue c (z / n) (z % n) 0) h4 hr,fI]
  apply cV
  intro w _
  rw [dX,ag,yF,yF]
  constructor
  ·intro h
   exact ⟨h _ _ p1 p2,fun a b ha hb=>by rw [fs];split;rfl;exact h a b ha hb⟩
  ·rintro ⟨h1,h2⟩ a b ha hb
   by_cases h:a=z / n∧b=z % n
   ·rw [h.1,h.2];exact h1
   ·have:=h2 a b ha hb
    rw [fs,if_neg h] at this
    exact this
 rw [eq_comm,e,GP]
 have mem:∀w x,x∈hJ n c w ↔ x < 4*n∧fit n c w (x / n) (x % n)=false:=fun w x=>by
  unfold hJ fit
  rw [cN,aS]
  constructor
  ·rintro ⟨h1,h2⟩
   refine ⟨h1,?_⟩
   rw [ag,bne_iff_ne,bne_iff_ne] at h2
   rw [Kb,beq_eq_false_iff_ne,beq_eq_false_iff_ne]
   exact h2
  ·rintro ⟨h1,h2⟩
   refine ⟨h1,?_⟩
   rw [Kb,beq_eq_false_iff_ne,beq_eq_false_iff_ne] at h2
   rw [ag,bne_iff_ne,bne_iff_ne]
   exact h2
 have only:∀w,kY (hJ n c w)=[z] ↔ (fits n (setClue c (z / n) (z % n) 0) w=true∧fit n c w (z / n) (z % n)=false):=fun w=>by
  rw [yF]
  have nd:(hJ n c w).Nodup:=by unfold hJ;exact List.Pairwise.filter _ List.nodup_range
  constructor
  ·intro h
   have hw:hJ n c w=[z]:=by
    unfold kY at h
    by_cases hl:(hJ n c w).length=1
    ·rw [if_pos hl] at h;exact h
    ·rw [if_neg hl] at h;cases h
   refine ⟨fun a b ha hb=>?_,((mem w z).mp (by rw [hw];simp)).2⟩
   rw [fs]
   by_cases Ej:a=z / n∧b=z % n
   ·rw [if_pos Ej]
   ·rw [if_neg Ej]
    obtain ⟨q1,q2,q3⟩:=place ha hb
    cases hf:fit n c w a b with
    | true=>rfl
    | false =>
     have:a*n+b∈hJ n c w:=(mem w _).mpr ⟨q1,by rw [q2,q3];exact hf⟩
     rw [hw,bZ] at this
     exact absurd ⟨by rw [←this,q2],by rw [←this,q3]⟩ Ej
  ·rintro ⟨h1,h2⟩
   have WG:z∈hJ n c w:=(mem w z).mpr ⟨hz,h2⟩
   have rb:∀x∈hJ n c w,x=z:=fun x hx=>by
    obtain ⟨hx1,XA⟩:=(mem w x).mp hx
    obtain ⟨r1,r2,r3⟩:=sh hn hx1
    have:=h1 _ _ r1 r2
    rw [fs] at this
    by_cases Ej:x / n=z / n∧x % n=z % n
    ·rw [←r3,Ej.1,Ej.2,p3]
    ·rw [if_neg Ej,XA] at this;cases this
   have hw:hJ n c w=[z]:=by
    generalize hJ n c w=q at WG rb nd
    match q,WG,rb,nd with
    | [],h,_,_=>simp at h
    | [x],_,h,_=>rw [h x (by simp)]
    | x::y::r,_,h,nd =>
     have e1:=h x (by simp)
     have e2:=h y (by simp)
     subst e1
     subst e2
     simp at nd
   rw [hw];rfl
 constructor
 ·rintro h ⟨w,hw,ho⟩
  obtain ⟨h1,h2⟩:=(only w).mp ho
  have:=h w (by rw [CH _ h4 hr];exact cN.mpr ⟨hw,h1⟩)
  rw [h2] at this;cases this
 ·intro h w hw
  rw [CH _ h4 hr] at hw
  obtain ⟨h1,h2⟩:=cN.mp hw
  cases hf:fit n c w (z / n) (z % n) with
  | true=>rfl
  | false=>exact absurd ⟨w,h1,(only w).mpr ⟨h2,hf⟩⟩ h
end Xb
namespace Xc
open Kh321
theorem GQ {n:Nat} {c:Clues} {t:Town} (h:stuck n t c=true∨hint n t c=none):∀f,follow n c f t=t
 | 0=>rfl
 | f+1=>by
  unfold follow
  by_cases hs:stuck n t c=true
  ·rw [if_pos hs]
  ·rw [if_neg hs,h.resolve_left hs]
theorem JN {n f:Nat} {c:Clues} {t:Town} {x:Nat×Nat} (hs:stuck n t c=false) (h:hint n t c=some x):follow n c (f+1) t=follow n c f (t.set x.1 x.2):=by
 rw [follow,if_neg (by rw [hs];decide),h]
theorem yG (l:List Nat):standing l≤l.length:=fM _ _
theorem EU:∀(l:List Nat) (m:Nat),(∀x∈l,x≤m)→seen m l=0
 | [],_,_=>rfl
 | x::l,m,h=>by
  rw [seen,if_neg (by have:=h x (by simp);omega)]
  exact EU l m fun y hy=>h y (by simp [hy])
end Xc
namespace Tn
open PySem Mi Xa
macro "§1" : term=>`(ao (ah rfl) aJ)
macro "§2" : term=>`(ao (ah rfl) (ao (ah rfl) aJ))
macro "§3" : term=>`(ao (ah rfl) (ao (ah rfl) (ao (ah rfl) aJ)))
theorem Us {a b:List D} (h:a.length+b.length≤1000):iA .add (.lst a) (.lst b)=some (.lst (a++b)):=by
 have hz:(1000:Nat)≤sizeLine:=by decide
 simp only [iA]
 rw [if_pos (by omega)]
noncomputable def nE:Ss:=(.cons (.jj (.not (.call "is_line" ig (.cons (.var 0) (.cons (.var 1) (.cons (.var 2) .nil))))) (.cons (.ret (.lst (.cons (.gl "NO_SUCH" (.int (-22))) .nil)) []) .nil) .nil) (.cons (.asg 3 (.call "line_ways" g_ (.cons (.var 0) (.cons (.var 1) (.cons (.var 2) .nil)))) []) (.cons (.jj (.op .eq (.un .len (.var 3)) (.int 0)) (.cons (.ret (.lst (.cons (.gl "NO_WAY" (.int (-33))) .nil)) []) .nil) .nil) (.cons (.ret (.op .add (.lst (.cons (.un .len (.var 3)) .nil)) (.comp (.nm 4) (.pB (.fld (.var 0) "n")) .no (.call "bits_at" n9 (.cons (.var 3) (.cons (.var 4) .nil))))) []) .nil))))
theorem Rf {g:ae} (ok:cP g) {k i j:Nat} (hj:j < g.n):∀w∈jf g k i,j < w.length∧∀x∈w,1≤x∧x≤1000:=fun w hw=>by
 obtain ⟨h1,h2⟩:=tE ok (k:=k) (i:=i)
 obtain ⟨h3,h4⟩:=h1 w hw
 refine ⟨by omega,fun x hx=>?_⟩
 have:=h4 x hx
 have:=ok.hi
 omega
theorem v_ {g:ae} {k i:Nat} (ok:cP g):bN 5 nE [tD g,iN k,iN i]=some (dq (told g (.line k i))):=by
 have hn:=ok.hi
 by_cases h:k < 4∧i < g.n
 ·refine bc ((bX ((n8 ok rfl rfl rfl).trans (by rw [yn h]))).trans ((cH (aL §3 (oE ok h.1 h.2))).trans ?_))
  have et:told g (.line k i)=match jf g k i with|[]=>aw (-33)|w=>⟨w.length,(aq g.n).map (Dz w)⟩:=by
   show (if 3 < k∨g.n≤i then _ else (match jf g k i with|[]=>_|w=>_):Option aD×aT).2=_
   rw [if_neg (by omega)]
   cases jf g k i<;>rfl
  rw [et]
  have hw:∀j,j < g.n→∀w∈jf g k i,j < w.length∧∀x∈w,1≤x∧x≤1000:=fun j hj=>Rf ok hj
  generalize jf g k i=A at hw ⊢
  cases A with
  | nil=>exact (bG (bu (fC (ah rfl) iV) bb (fA (b:=0))) (aU (cE (ao bW aJ)))).trans rfl
  | cons q l =>
   refine (bX (bu (fC (ah rfl) iV) bb (fA (b:=0)))).trans ((aU (bu (cE (ao (fC (ah rfl) iV) aJ)) ((d9 (iF (cv (ah rfl) (gm g)) (rh (by omega))) (dC iN (fun j=>iN (Dz (q::l) j)) (aq g.n) fun j hj=>⟨_,rfl,kC,aL §2 (yx (hw j (aS.mp hj)))⟩)).trans (by rw [jq])) (mM (by rw [af,aP];omega)))).trans rfl)
 ·refine bc ((bG ((n8 ok rfl rfl rfl).trans (by rw [Cr h])) (aU (cE (ao bW aJ)))).trans ?_)
  have e:told g (.line k i)=aw (-22):=by
   show (if 3 < k∨g.n≤i then _ else _:Option aD×aT).2=_
   rw [if_pos (by omega)]
  rw [e];rfl
def nM (x:Nat×Nat):D:=.tup [iN x.1,iN x.2]
def fY:Ss:=(.cons (.ret (.op .add (.comp (.nm 1) (.pB (.var 0)) .no (.tup (.cons (.gl "LEFT" (.int 3)) (.cons (.var 1) .nil)))) (.comp (.nm 1) (.pB (.var 0)) .no (.tup (.cons (.gl "ABOVE" (.int 0)) (.cons (.var 1) .nil))))) []) .nil)
theorem pE {n:Nat} (hn:n≤4):bN 2 fY [iN n]=some (.lst ((dU n).map nM)):=by
 refine bc (aU ((bu (d9 (iF (ah rfl) (rh (by omega))) (dC iN (fun i=>nM (3,i)) (aq n) fun i hi=>⟨_,rfl,kC,tj (ao bW (ao (ah rfl) aJ))⟩)) (d9 (iF (ah rfl) (rh (by omega))) (dC iN (fun i=>nM (0,i)) (aq n) fun i hi=>⟨_,rfl,kC,tj (ao bW (ao (ah rfl) aJ))⟩)) (Us (by rw [af,af,aP];omega))).trans ?_))
 unfold dU
 rw [bo,a8,a8]
 rfl
noncomputable def eQ:List D→Option D:=kd (fun x:Nat=>[iN x]) (fun x=>x≤4) (fun x=>.lst ((dU x).map nM))
theorem qh {n:Nat} (h:n≤4):eQ [iN n]=some (.lst ((dU n).map nM)) :=
 b0 (x:=n) h fun y h hy=>by
  injection h with h1 h
  rw [cy h1]
theorem qi:∀ds d,eQ ds=some d→bN 2 fY ds=some d:=fun ds d h=>by
 obtain ⟨x,rfl,hp,rfl⟩:=bf h
 exact pE hp
noncomputable def kQ:Ss:=(.cons (.jj (.and (.cons (.op .eq (.ix (.fld (.var 0) "cells") (.var 4)) (.int 0)) (.cons (.call "is_same" il (.cons (.var 2) (.cons (.var 3) .nil))) .nil))) (.cons (.ret (.lst (.cons (.var 4) (.cons (.ix (.ix (.var 2) (.int 0)) (.var 3)) .nil))) []) .nil) .nil) .nil)
noncomputable def lq:Ss:=(.cons (.jk (.tp [3,4]) (.enum (.var 1)) [] kQ) (.cons (.ret (.lst .nil) []) .nil))
def qj (t cs q:List Nat) (l:List (List Nat)):Option (Nat×Nat):=cs.zipIdx.findSome? fun z=>if az t z.1=0∧hE q l z.2=true then some (z.1,az q z.2) else none
theorem yH {g:ae} {cs q:List Nat} {l:List (List Nat)} (hc:∀p∈cs,p < g.town.length) (hl:∀w∈q::l,w.length=cs.length):bN 5 lq [tD g,iL cs,g9 (q::l)]=some (iL (rK (qj g.town cs q l))):=by
 have key:=qI (t:=.tp [3,4]) (body:=cg kQ) (fun z:Nat×Nat=>.tup [iN z.2,iN z.1]) (fun s=>∃x y,s=[.fz (tD g),.fz (iL cs),.fz (g9 (q::l)),x,y])
  (fun z=>if az g.town z.1=0∧hE q l z.2=true then some (iL [z.1,az q z.2]) else none) cs.zipIdx
  (fun s ⟨x,y,hs⟩ z hz=>by
   subst hs
   obtain ⟨_,h2,h3⟩:=BS hz
   simp only [cn,J2] at h2 h3
   have Vs:z.1∈cs:=MN h3.symm
   have hw:∀w∈q::l,z.2 < w.length:=fun w hw=>by rw [hl w hw];exact h2
   refine ⟨_,rfl,?_⟩
   have ec:bF (.and (.cons (.op .eq (.ix (.fld (.var 0) "cells") (.var 4)) (.int 0)) (.cons (.call "is_same" il (.cons (.var 2) (.cons (.var 3) .nil))) .nil))) (bx [.fz (tD g),.fz (iL cs),.fz (g9 (q::l)),.fz (iN z.2),.fz (iN z.1)])=some (.bl (decide (az g.town z.1=0)&&hE q l z.2)) :=
    uH (bu (fE (cv (ah rfl) (eF g)) (ah rfl) (jo (hc _ Vs))) bb (fA (b:=0))) fun _=>aL §2 (sf hw)
   by_cases h:az g.town z.1=0∧hE q l z.2=true
   ·rw [if_pos h]
    exact bG (ec.trans (by rw [decide_eq_true h.1,h.2];rfl)) (aU (cE (ao (ah rfl) (ao (fE (fE (ah rfl) bb Cu) (ah rfl) (jo (hw q (by simp)))) aJ))))
   ·rw [if_neg h]
    refine ⟨_,(bX (ec.trans ?_)).trans rfl,_,_,rfl⟩
    by_cases h0:az g.town z.1=0
    ·rw [decide_eq_true h0,o8.mpr fun e=>h ⟨h0,e⟩];rfl
    ·rw [decide_eq_false h0];rfl) _ ⟨.no,.no,rfl⟩
 have ef:cs.zipIdx.findSome? (fun z=>if az g.town z.1=0∧hE q l z.2=true then some (iL [z.1,az q z.2]) else none)=(qj g.town cs q l).map fun x=>iL [x.1,x.2]:=by
  unfold qj
  generalize cs.zipIdx=L
  induction L with
  | nil=>rfl
  | cons z L ih =>
   rw [c6,c6,ih]
   by_cases h:az g.town z.1=0∧hE q l z.2=true
   ·rw [if_pos h,if_pos h];rfl
   ·rw [if_neg h,if_neg h]
 have ei:pC (.enum (.var 1)) (view (freeze [] [.fz (tD g),.fz (iL cs),.fz (g9 (q::l)),.no,.no]))=some (cs.zipIdx.map fun p=>.tup [iN p.2,iN p.1]):=(w_ (ah rfl)).trans (by rw [tF])
 rw [ef] at key
 cases hf:qj g.town cs q l with
 | some x =>
  rw [hf] at key
  exact bc (tm ei key)
 | none =>
  rw [hf] at key
  obtain ⟨s',h,x,y,rfl⟩:=key
  exact bc ((eV ei h).trans (aU (cE aJ)))
noncomputable def lr:List D→Option D:=kd (fun x:ae×List Nat×List Nat×List (List Nat)=>[tD x.1,iL x.2.1,g9 (x.2.2.1::x.2.2.2)]) (fun x=>cP x.1∧(∀p∈x.2.1,p < x.1.town.length)∧∀w∈x.2.2.1::x.2.2.2,w.length=x.2.1.length) (fun x=>iL (rK (qj x.1.town x.2.1 x.2.2.1 x.2.2.2)))
theorem Aj {g:ae} {cs q:List Nat} {l:List (List Nat)} (ok:cP g) (hc:∀p∈cs,p < g.town.length) (hl:∀w∈q::l,w.length=cs.length):lr [tD g,iL cs,g9 (q::l)]=some (iL (rK (qj g.town cs q l))) :=
 b0 (x:=(g,cs,q,l)) ⟨ok,hc,hl⟩ fun y h hy=>by
  obtain ⟨a,b,c,d⟩:=y
  injection h with h1 h;injection h with h2 h;injection h with h3 h
  have e:=qJ h3
  injection e with e1 e2
  have e1:c=q:=e1
  have e2:d=l:=e2
  rw [dM hy.1 ok h1,fP h2,e1,e2]
theorem Ak:∀ds d,lr ds=some d→bN 5 lq ds=some d:=fun ds d h=>by
 obtain ⟨x,rfl,hp,rfl⟩:=bf h
 exact yH hp.2.1 hp.2.2
noncomputable def e7:Ss:=(.cons (.asg 4 (.call "line_ways" g_ (.cons (.var 0) (.cons (.var 2) (.cons (.var 3) .nil)))) []) (.cons (.jj (.op .eq (.un .len (.var 4)) (.int 0)) (.cons (.ret (.lst (.cons (.gl "NO_WAY" (.int (-33))) .nil)) []) .nil) .nil) (.cons (.jj (.op .eq (.un .len (.var 1)) (.int 0)) (.cons (.asg 1 (.call "first_told" lr (.cons (.var 0) (.cons (.call "line_cells" eW (.cons (.fld (.var 0) "n") (.cons (.var 2) (.cons (.var 3) .nil)))) (.cons (.var 4) .nil)))) []) .nil) .nil) .nil)))
noncomputable def nG:Ss:=(.cons (.asg 1 (.lst .nil) []) (.cons (.jk (.tp [2,3]) (.lst (.call "rows_then_columns" eQ (.cons (.fld (.var 0) "n") .nil))) [] e7) (.cons (.jj (.op .eq (.un .len (.var 1)) (.int 0)) (.cons (.ret (.lst (.cons (.gl "UNSURE" (.int (-6))) .nil)) []) .nil) .nil) (.cons (.ret (.var 1) []) .nil))))
theorem EV {g:ae} (ok:cP g) {x:Nat×Nat} {q:List Nat} {l:List (List Nat)} (hw:jf g x.1 x.2=q::l):qj g.town (aZ g.n x.1 x.2) q l=tells g.n g.town g.clues x:=by
 have hr:=(tE ok (k:=x.1) (i:=x.2)).1
 rw [hw] at hr
 have Vo:(aZ g.n x.1 x.2).length=g.n:=by unfold aZ;rw [af,aP]
 unfold qj tells
 have hw':gx g.n g.town g.clues x.1 x.2=q::l:=hw
 rw [hw']
 have:∀(L:List (Nat×Nat)),(∀z∈L,z.2 < g.n)→(L.findSome? fun z=>if az g.town z.1=0∧hE q l z.2=true then some (z.1,az q z.2) else none)=L.findSome? fun z=>if az g.town z.1≠0 then none else (aq g.n).findSome? fun h=>if Dz (q::l) z.2=2 ^ h then some (z.1,h+1) else none:=fun L=>by
  induction L with
  | nil=>intro _;rfl
  | cons z L ih =>
   intro hL
   rw [c6,c6,ih fun y hy=>hL y (by simp [hy]),GN hr (hL z (by simp))]
   by_cases h0:az g.town z.1=0
   ·rw [if_neg (show ¬az g.town z.1≠0 by simp [h0])]
    by_cases hs:hE q l z.2=true
    ·rw [if_pos ⟨h0,hs⟩,if_pos hs]
    ·rw [if_neg fun h=>hs h.2,if_neg hs]
   ·rw [if_neg fun h=>h0 h.1,if_pos h0]
 refine this _ fun z hz=>?_
 obtain ⟨_,h2,_⟩:=BS hz
 omega
theorem LZ {n:Nat} {x:Nat×Nat} (h:x∈dU n):x.1 < 4∧x.2 < n:=by
 unfold dU at h
 rcases bE.mp h with h|h
 ·obtain ⟨i,hi,rfl⟩:=ba.mp h
  exact ⟨show (3:Nat) < 4 by decide,aS.mp hi⟩
 ·obtain ⟨i,hi,rfl⟩:=ba.mp h
  exact ⟨show (0:Nat) < 4 by decide,aS.mp hi⟩
theorem qP {g:ae}:told g .hint=if eP g.n g.town g.clues=true then aw (-33) else match fF g.n g.town g.clues with|some x=>⟨x.1,[x.2]⟩|none=>aw (-6):=by
 show (if eP g.n g.town g.clues=true then _ else (match fF g.n g.town g.clues with|some x=>_|none=>_):Option aD×aT).2=_
 split
 ·rfl
 ·cases fF g.n g.town g.clues<;>rfl
theorem wa {g:ae} (ok:cP g):bN 5 nG [tD g]=some (dq (told g .hint)):=by
 have hn:=ok.hi
 rw [qP,LV]
 have ei:pC (.lst (.call "rows_then_columns" eQ (.cons (.fld (.var 0) "n") .nil))) (view (freeze [] [.fz (tD g),.fz (.lst []),.no,.no,.no]))=some ((dU g.n).map nM):=eJ (aL (ao (cv (ah rfl) (gm g)) aJ) (qh hn))
 have body:∀(x:Nat×Nat) (T:List Nat) (u v w:Sl),x.1 < 4∧x.2 < g.n→∃s1,Gh (.tp [2,3]) (nM x) [.fz (tD g),.fz (iL T),u,v,w]=some s1 ∧
   (if jf g x.1 x.2=[] then cg e7 s1=some (.rt (dq (aw (-33)))) else ∃u v w,cg e7 s1=some (.nx [.fz (tD g),.fz (iL (if T.length=0 then rK (tells g.n g.town g.clues x) else T)),u,v,w])):=fun x T u v w hx=>by
  refine ⟨_,rfl,?_⟩
  have e1:=oE ok hx.1 hx.2
  have e0:∀{A:List (List Nat)} {s:List Sl},fv (bx s) 4=some (g9 A)→bF (.op .eq (.un .len (.var 4)) (.int 0)) (bx s)=some (.bl (decide (A.length=0))):=fun h=>bu (fC (ah h) iV) bb (fA (b:=0))
  have er:∀{s:List Sl},fv (bx s) 1=some (iL T)→bF (.op .eq (.un .len (.var 1)) (.int 0)) (bx s)=some (.bl (decide (T.length=0))):=fun h=>bu (fC (ah h) gP) bb (fA (b:=0))
  by_cases hw:jf g x.1 x.2=[]
  ·rw [if_pos hw]
   rw [hw] at e1
   exact (cH (aL §3 e1)).trans (bG ((e0 (A:=[]) rfl).trans rfl) (aU (cE (ao bW aJ))))
  ·rw [if_neg hw]
   obtain ⟨q,l,hq⟩:∃q l,jf g x.1 x.2=q::l:=by
    cases h:jf g x.1 x.2 with
    | nil=>exact absurd h hw
    | cons q l=>exact ⟨q,l,rfl⟩
   have hr:=(tE ok (k:=x.1) (i:=x.2)).1
   rw [hq] at e1 hr
   have Vo:(aZ g.n x.1 x.2).length=g.n:=by unfold aZ;rw [af,aP]
   have e2:=Aj (cs:=aZ g.n x.1 x.2) (q:=q) (l:=l) ok (fun p hp=>by rw [ok.town];exact oB hx.2 hp) (fun w hw=>by rw [Vo];exact (hr w hw).1)
   rw [EV ok hq] at e2
   refine ⟨.fz (iN x.1),.fz (iN x.2),.fz (g9 (q::l)),(cH (aL §3 e1)).trans ((bX ((e0 (A:=q::l) rfl).trans (by rw [decide_eq_false (by simp)]))).trans ?_)⟩
   by_cases hT:T.length=0
   ·rw [if_pos hT]
    exact (jn ((er rfl).trans (by rw [decide_eq_true hT])) ((cH (aL (ao (ah rfl) (ao (aL (ao (cv (ah rfl) (gm g)) §2) (iK hn (by omega))) §1)) e2)).trans rfl)).trans rfl
   ·rw [if_neg hT]
    exact (bX ((er rfl).trans (by rw [decide_eq_false hT]))).trans rfl
 by_cases hs:((dU g.n).any fun x=>gx g.n g.town g.clues x.1 x.2 == [])=true
 ·rw [if_pos hs]
  have key:=qI (t:=.tp [2,3]) (body:=cg e7) nM (fun s=>∃T u v w,s=[.fz (tD g),.fz (iL T),u,v,w])
   (fun x=>if jf g x.1 x.2=[] then some (dq (aw (-33))) else none) (dU g.n)
   (fun s ⟨T,u,v,w,hs⟩ x hx=>by
    subst hs
    obtain ⟨s1,h1,h2⟩:=body x T u v w (LZ hx)
    refine ⟨s1,h1,?_⟩
    by_cases hw:jf g x.1 x.2=[]
    ·rw [if_pos hw] at h2 ⊢;exact h2
    ·rw [if_neg hw] at h2 ⊢
     obtain ⟨u,v,w,h2⟩:=h2
     exact ⟨_,h2,_,u,v,w,rfl⟩) _ ⟨[],.no,.no,.no,rfl⟩
  obtain ⟨x,hx,XA⟩:=k6.mp hs
  have ef:(dU g.n).findSome? (fun x=>if jf g x.1 x.2=[] then some (dq (aw (-33))) else none)=some (dq (aw (-33))):=by
   cases hf:(dU g.n).findSome? (fun x=>if jf g x.1 x.2=[] then some (dq (aw (-33))) else none) with
   | none =>
    rw [DE] at hf
    have:=hf x hx
    rw [if_pos (show jf g x.1 x.2=[] from beq_iff_eq.mp XA)] at this
    cases this
   | some d =>
    obtain ⟨y,_,hy⟩:=f7 hf
    split at hy
    ·exact hy.symm
    ·cases hy
  rw [ef] at key
  exact bc ((cH (cE aJ)).trans (tm ei key))
 ·rw [if_neg hs]
  have hno:∀x∈dU g.n,jf g x.1 x.2≠[]:=fun x hx h=>hs (k6.mpr ⟨x,hx,beq_iff_eq.mpr h⟩)
  obtain ⟨s',h,_,u,v,w,rfl⟩:=dD (t:=.tp [2,3]) (body:=cg e7) nM (fun (T:List Nat) x=>if T.length=0 then rK (tells g.n g.town g.clues x) else T)
   (fun T r s=>(∀x∈r,x∈dU g.n)∧∃u v w,s=[.fz (tD g),.fz (iL T),u,v,w])
   (fun T x r s ⟨hr,u,v,w,hs⟩=>by
    subst hs
    have hx:=hr x (by simp)
    obtain ⟨s1,h1,h2⟩:=body x T u v w (LZ hx)
    rw [if_neg (hno x hx)] at h2
    obtain ⟨u,v,w,h2⟩:=h2
    exact ⟨s1,_,h1,h2,fun y hy=>hr y (by simp [hy]),u,v,w,rfl⟩) (dU g.n) (rK none) [.fz (tD g),.fz (iL []),.no,.no,.no] ⟨fun _ h=>h,.no,.no,.no,rfl⟩
  rw [sg,←Ip] at h
  refine bc ((cH (cE aJ)).trans ((eV ei h).trans ?_))
  cases hf:fF g.n g.town g.clues with
  | none=>exact (bG (bu (fC (ah rfl) gP) bb (fA (b:=0))) (aU (cE (ao bW aJ)))).trans rfl
  | some x=>exact (bX (bu (fC (ah rfl) gP) bb (fA (b:=0)))).trans ((aU (ah rfl)).trans rfl)
end Tn
namespace Tn
open PySem Mi Xa
theorem Ut {ρ:eA} {c a b:E} {d:D} {p:Bool} (hc:bF c ρ=some (.bl p)) (ha:p=true→bF a ρ=some d) (hb:p=false→bF b ρ=some d):bF (.ite c a b) ρ=some d:=by
 simp only [bF];rw [hc]
 cases p with
 | true=>exact ha rfl
 | false=>exact hb rfl
theorem oI {α:Type} (f:α→List Nat):∀(L:List α) (acc:List Nat),L.foldl (fun acc l=>acc++f l) acc=acc++L.flatMap f
 | [],acc=>by simp
 | l::L,acc=>by rw [b9,oI f L,b_,de]
theorem Iq {d:D} {f:Str} {l:List Nat} (h:pX d f=some (iL l)):bN 2 (.cons (.ret (.un .len (.comp (.nm 1) (.lst (.fld (.var 0) f)) (.yes (.op .gt (.var 1) (.int 0))) (.var 1))) []) .nil) [d]=some (iN (aB l)):=by
 refine bc (aU (fC ((d9 (eJ (cv (ah rfl) h)) (g8 iN (fun x=>decide (0 < x)) iN l fun x hx=>⟨_,rfl,oz (bu (ah rfl) bb (i9 (b:=0))),fun _=>ah rfl⟩)).trans rfl) ?_))
 exact (gP (l:=l.filter fun x=>decide (0 < x))).trans (by rw [Ex])
def nI:Ss:=(.cons (.ret (.un .len (.comp (.nm 1) (.lst (.fld (.var 0) "clues")) (.yes (.op .gt (.var 1) (.int 0))) (.var 1))) []) .nil)
def xo (x:ae×Nat×Nat):D:=.obj ["n","cells","clues","earlier","later"] [iN x.1.n,iL x.1.town,iL x.1.clues.flatten,.lst (aG x.2.1 .any),.lst (aG x.2.2 .any)]
theorem CI {a b:ae×Nat×Nat} (h:xo a=xo b):a.1.n=b.1.n∧a.1.town=b.1.town∧a.1.clues.flatten=b.1.clues.flatten∧a.2.1=b.2.1∧a.2.2=b.2.2:=by
 unfold xo at h
 injection h with _ h
 injection h with h1 h
 injection h with h2 h
 injection h with h3 h
 injection h with h4 h
 injection h with h5 h
 injection h4 with h4
 injection h5 with h5
 have h4:=congrArg lZ h4
 have h5:=congrArg lZ h5
 rw [c9,c9] at h4 h5
 exact ⟨cy h1,fP h2,fP h3,h4,h5⟩
theorem XB (x:ae×Nat×Nat):pX (xo x) "n" = some (iN x.1.n):=by
 show look "n" ["n","cells","clues","earlier","later"] _=_
 unfold look;rw [if_pos rfl]
theorem L0 (x:ae×Nat×Nat):pX (xo x) "cells" = some (iL x.1.town):=by
 show look "cells" ["n","cells","clues","earlier","later"] _=_
 unfold look;rw [if_neg (by decide +kernel)];unfold look;rw [if_pos rfl]
theorem L1 (x:ae×Nat×Nat):pX (xo x) "clues" = some (iL x.1.clues.flatten):=by
 show look "clues" ["n","cells","clues","earlier","later"] _=_
 unfold look;rw [if_neg (by decide +kernel)];unfold look;rw [if_neg (by decide +kernel)];unfold look;rw [if_pos rfl]
theorem GR (x:ae×Nat×Nat):pX (xo x) "earlier" = some (.lst (aG x.2.1 .any)):=by
 show look "earlier" ["n","cells","clues","earlier","later"] _=_
 unfold look;rw [if_neg (by decide +kernel)];unfold look;rw [if_neg (by decide +kernel)];unfold look;rw [if_neg (by decide +kernel)];unfold look;rw [if_pos rfl]
theorem L3 (x:ae×Nat×Nat):pX (xo x) "later" = some (.lst (aG x.2.2 .any)):=by
 show look "later" ["n","cells","clues","earlier","later"] _=_
 unfold look;rw [if_neg (by decide +kernel)];unfold look;rw [if_neg (by decide +kernel)];unfold look;rw [if_neg (by decide +kernel)];unfold look;rw [if_neg (by decide +kernel)];unfold look;rw [if_pos rfl]
noncomputable def iX:List D→Option D:=kd (fun x:ae×Nat×Nat=>[xo x]) (fun _=>True) (fun x=>iN (aB x.1.town))
noncomputable def kh:List D→Option D:=kd (fun x:ae×Nat×Nat=>[xo x]) (fun _=>True) (fun x=>iN (aB x.1.clues.flatten))
theorem uV (x:ae×Nat×Nat):iX [xo x]=some (iN (aB x.1.town)) :=
 b0 (x:=x) trivial fun y h _=>by injection h with h _;rw [(CI h).2.1]
theorem yI (x:ae×Nat×Nat):kh [xo x]=some (iN (aB x.1.clues.flatten)) :=
 b0 (x:=x) trivial fun y h _=>by injection h with h _;rw [(CI h).2.2.1]
theorem uW:∀ds d,iX ds=some d→bN 2 f_ ds=some d:=fun ds d h=>by
 obtain ⟨x,rfl,hp,rfl⟩:=bf h
 exact Iq (L0 x)
theorem yJ:∀ds d,kh ds=some d→bN 2 nI ds=some d:=fun ds d h=>by
 obtain ⟨x,rfl,hp,rfl⟩:=bf h
 exact Iq (L1 x)
noncomputable def jz:Ss:=(.cons (.ret (.lst (.cons (.call "count_towers" iX (.cons (.var 0) .nil)) (.cons (.fld (.var 0) "n") (.cons (.call "count_clues" kh (.cons (.var 0) .nil)) (.cons (.un .len (.fld (.var 0) "earlier")) (.cons (.un .len (.fld (.var 0) "later")) .nil)))))) []) .nil)
def si (x:ae×Nat×Nat):aT:=⟨aB x.1.town,[x.1.n,(x.1.clues.flatten.filter fun y=>y != 0).length,x.2.1,x.2.2]⟩
theorem oJ (k:Nat):vp .len (.lst (aG k .any))=some (iN k):=by
 show some (D.int ((aG k D.any).length:Nat))=_
 rw [c9];rfl
theorem uX (x:ae×Nat×Nat):bN 1 jz [xo x]=some (dq (si x)) :=
 bc (aU (cE (ao (aL §1 (uV x)) (ao (cv (ah rfl) (XB x)) (ao (aL §1 (yI x)) (ao (fC (cv (ah rfl) (GR x)) (oJ _)) (ao (fC (cv (ah rfl) (L3 x)) (oJ _)) aJ)))))))
noncomputable def gB:Ss:=(.cons (.ext 1 (.comp (.nm 3) (.pB (.fld (.var 0) "n")) .no (.call "count_seen" di (.cons (.call "line_towers" cz (.cons (.var 0) (.cons (.var 2) (.cons (.var 3) .nil)))) .nil))) []) .nil)
noncomputable def jA:S:=.jk (.nm 2) (.pB (.gl "SIDES" (.int 4))) [] gB
noncomputable def lu:Ss:=(.cons (.own 1 (.lst .nil) []) (.cons (.jk (.nm 2) (.pB (.gl "SIDES" (.int 4))) [] gB) (.cons (.ret (.var 1) [1]) .nil)))
theorem BG {g:ae} (ok:cP g):∃x,uc jA [.fz (tD g),.ow [],.no,.no]=some (.nx [.fz (tD g),.ow ((cC g).flatten.map iN),x,.no]):=by
 have hn:=ok.hi
 have hz:(1000:Nat)≤sizeLine:=by decide
 obtain ⟨s',h,_,x,rfl⟩:=dD (t:=.nm 2) (body:=cg gB) iN (fun acc k=>acc++(aq g.n).map (dB g.n g.town k))
  (fun b r s=>b.length+r.length*4≤100∧∃x,s=[.fz (tD g),.ow (b.map iN),x,.no])
  (fun b k r s ⟨hb,x,hs⟩=>by
   subst hs
   rw [ay] at hb
   refine ⟨_,[.fz (tD g),.ow ((b++(aq g.n).map (dB g.n g.town k)).map iN),.fz (iN k),.no],rfl,?_,by rw [ax,af,aP];omega,_,rfl⟩
   refine (ye (l:=((aq g.n).map (dB g.n g.town k)).map iN) ((d9 (iF (cv (ah rfl) (gm g)) (rh (by omega))) (dC iN (fun i=>iN (dB g.n g.town k i)) (aq g.n) fun i hi=>⟨_,rfl,kC,aL (ao (aL §3 (eh ok (aS.mp hi))) aJ) (gI _)⟩)).trans (by rw [jq];rfl)) ?_).trans rfl
   show (if (b.map iN).length+(((aq g.n).map (dB g.n g.town k)).map iN).length≤sizeLine then some _ else none)=_
   rw [if_pos (by rw [af,af,af,aP];omega),bo]
   rfl) (aq 4) [] [.fz (tD g),.ow [],.no,.no] ⟨by simp,.no,rfl⟩
 rw [oI,eZ] at h
 have e4:pC (.pB (.gl "SIDES" (.int 4))) (view (freeze [] [.fz (tD g),.ow [],.no,.no]))=some ((aq 4).map iN):=iF (x:=iN 4) bW (rh (by omega))
 have ev:(aq 4).flatMap (fun k=>(aq g.n).map (dB g.n g.town k))=(cC g).flatten:=by rw [List.flatMap_def];rfl
 rw [ev] at h
 exact ⟨x,by unfold jA;simp only [uc];rw [e4,bw];exact h⟩
theorem yK {g:ae} (ok:cP g):bN 4 lu [tD g]=some (iL (cC g).flatten):=by
 obtain ⟨x,h⟩:=BG ok
 refine bc ((oA (cE aJ)).trans (Eq.trans (b:=cg (.cons (.ret (.var 1) [1]) .nil) [.fz (tD g),.ow ((cC g).flatten.map iN),x,.no]) ?_ (aU (ah rfl))))
 show cg (.cons jA _) [.fz (tD g),.ow [],.no,.no]=_
 rw [cg,h];rfl
noncomputable def lx:List D→Option D:=kd (fun x:ae=>[tD x]) (fun x=>cP x) (fun x=>iL (cC x).flatten)
theorem Al {g:ae} (ok:cP g):lx [tD g]=some (iL (cC g).flatten) :=
 b0 (x:=g) ok fun y h hy=>by injection h with h1 h;rw [dM hy ok h1]
theorem Am:∀ds d,lx ds=some d→bN 4 lu ds=some d:=fun ds d h=>by
 obtain ⟨x,rfl,hp,rfl⟩:=bf h
 exact yK hp
theorem BH (g:ae):(cC g).flatten.length=4*g.n:=by
 rw [iQ (n:=g.n)]
 ·unfold cC;rw [af,aP]
 ·intro q hq
  unfold cC at hq
  obtain ⟨k,_,rfl⟩:=ba.mp hq
  rw [af,aP]
theorem EW (g:ae):gd g=!decide (0∈g.town):=by
 unfold gd
 rw [dX,aX,eX,decide_eq_false_iff_not]
 exact ⟨fun h h0=>absurd (h 0 h0) (by decide),fun h x hx=>bne_iff_ne.mpr fun e=>h (e▸hx)⟩
noncomputable def mh:Ss:=(.cons (.jj (.op .isin (.int 0) (.fld (.var 0) "cells")) (.cons (.ret (.lst (.cons (.gl "NO_TOWER" (.int (-12))) .nil)) []) .nil) .nil) (.cons (.asg 1 (.call "town_views" lx (.cons (.var 0) .nil)) []) (.cons (.ret (.op .add (.lst (.cons (.un .len (.var 1)) .nil)) (.var 1)) []) .nil)))
theorem uY {g:ae} (ok:cP g):bN 2 mh [tD g]=some (dq (told g .views)):=by
 have hn:=ok.hi
 have e:told g .views=if gd g=true then vj (cC g).flatten else aw (-12):=by
  show (if gd g=true then _ else _:Option aD×aT).2=_
  split<;>rfl
 have ec:∀{s:List Sl},fv (bx s) 0=some (tD g)→bF (.op .isin (.int 0) (.fld (.var 0) "cells")) (bx s)=some (.bl (decide (0∈g.town))):=fun h=>bu bb (cv (ah h) (eF g)) (Ly (x:=0))
 rw [e,EW]
 by_cases h:0∈g.town
 ·rw [decide_eq_true h]
  exact bc (bG ((ec rfl).trans (by rw [decide_eq_true h])) (aU (cE (ao bW aJ))))
 ·rw [decide_eq_false h]
  exact bc ((bX ((ec rfl).trans (by rw [decide_eq_false h]))).trans ((cH (aL §1 (Al ok))).trans ((aU (bu (cE (ao (fC (ah rfl) gP) aJ)) (ah rfl) (mM (l:=(cC g).flatten) (by rw [BH];omega)))).trans rfl)))
noncomputable def jW:Ss:=(.cons (.ext 2 (.call "line_towers" cz (.cons (.var 0) (.cons (.var 1) (.cons (.var 3) .nil)))) []) .nil)
noncomputable def ki:Ss:=(.cons (.own 2 (.lst .nil) []) (.cons (.jk (.nm 3) (.pB (.fld (.var 0) "n")) [] jW) (.cons (.ret (.var 2) [2]) .nil)))
def n_ (g:ae) (k:Nat):List Nat:=(aq g.n).flatMap (dm g k)
theorem wb {g:ae} {k:Nat} (ok:cP g):bN 4 ki [tD g,iN k]=some (iL (n_ g k)):=by
 have hn:=ok.hi
 have hz:(1000:Nat)≤sizeLine:=by decide
 obtain ⟨s',h,_,_,x,rfl⟩:=dD (t:=.nm 3) (body:=cg jW) iN (fun acc i=>acc++dm g k i)
  (fun b r s=>b.length+r.length*4≤100∧(∀i∈r,i < g.n)∧∃x,s=[.fz (tD g),.fz (iN k),.ow (b.map iN),x])
  (fun b i r s ⟨hb,hr,x,hs⟩=>by
   subst hs
   rw [ay] at hb
   have hl:=iZ g k i
   refine ⟨_,[.fz (tD g),.fz (iN k),.ow ((b++dm g k i).map iN),.fz (iN i)],rfl,?_,by rw [ax];omega,fun t ht=>hr t (by simp [ht]),_,rfl⟩
   refine (ye (aL §3 (eh ok (hr i (by simp)))) ?_).trans rfl
   show (if (b.map iN).length+((dm g k i).map iN).length≤sizeLine then some _ else none)=_
   rw [if_pos (by rw [af,af];omega),bo]
   rfl) (aq g.n) [] [.fz (tD g),.fz (iN k),.ow [],.no] ⟨by simp;omega,fun i hi=>aS.mp hi,.no,rfl⟩
 rw [oI,eZ] at h
 exact bc ((oA (cE aJ)).trans ((eV (iF (cv (ah rfl) (gm g)) (rh (by omega))) h).trans (aU (ah rfl))))
noncomputable def gL:List D→Option D:=kd (fun x:ae×Nat=>[tD x.1,iN x.2]) (fun x=>cP x.1) (fun x=>iL (n_ x.1 x.2))
theorem qk {g:ae} {k:Nat} (ok:cP g):gL [tD g,iN k]=some (iL (n_ g k)) :=
 b0 (x:=(g,k)) ok fun y h hy=>by
  obtain ⟨a,b⟩:=y
  injection h with h1 h;injection h with h2 h
  rw [dM hy ok h1,cy h2]
theorem yL:∀ds d,gL ds=some d→bN 4 ki ds=some d:=fun ds d h=>by
 obtain ⟨x,rfl,hp,rfl⟩:=bf h
 exact wb hp
def ly:Ss:=(.cons (.ret (.sl (.fld (.var 0) "clues") (.yes (.op .mul (.var 1) (.fld (.var 0) "n"))) (.yes (.op .mul (.op .add (.var 1) (.int 1)) (.fld (.var 0) "n")))) []) .nil)
theorem EX:∀{c:List (List Nat)} {n k:Nat},(∀l∈c,l.length=n)→k < c.length→((c.flatten.drop (k*n)).take n)=c.getD k []
 | [],_,_,_,h=>by simp at h
 | x::c,n,0,hc,_=>by
  have hx:=hc x (by simp)
  rw [kF,List.drop_zero,bz,List.take_append_of_le_length (by omega),dR (by omega)]
  rfl
 | x::c,n,k+1,hc,hk=>by
  have hx:=hc x (by simp)
  have ih:=EX (c:=c) (n:=n) (k:=k) (fun l hl=>hc l (by simp [hl])) (by simpa using hk)
  rw [bz,gc,gW,rE,←DF,←hx,DG,hx,ih]
  rfl
theorem Rg {l:List Nat} {a b:Nat}:J6 (iL l) (some (a:Int)) (some (b:Int))=some (iL ((l.drop (min a l.length)).take (min b l.length - min a l.length))):=by
 have e:J6 (iL l) (some (a:Int)) (some (b:Int))=some (.lst (((l.map iN).drop (min a (l.map iN).length)).take (min b (l.map iN).length - min a (l.map iN).length))):=rfl
 rw [e,af,←pA,←pz]
 rfl
def dJ (g:ae) (k:Nat):List Nat:=(aq g.n).map (a6 g.clues k)
theorem L4 {g:ae} {k:Nat} (ok:cP g) (hk:k < 4):g.clues.getD k []=dJ g k:=by
 have hl:(g.clues.getD k []).length=g.n:=by
  rw [aj,au (by rw [ok.four];exact hk)]
  exact ok.row _ (cS _)
 exact tJ hl
theorem yM {g:ae} {k:Nat} (ok:cP g) (hk:k < 4):bN 2 ly [tD g,iN k]=some (iL (dJ g k)):=by
 have hf:g.clues.flatten.length=4*g.n:=by rw [iQ ok.row,ok.four]
 have hle:(k+1)*g.n≤4*g.n:=mv _ hk
 have e:(k+1)*g.n=k*g.n+g.n:=by rw [gc,gW]
 refine bc (aU ((En (cv (ah rfl) (nY g)) (pb (bu (ah rfl) (cv (ah rfl) (gm g)) (p9 (by omega)))) (pb (bu (bu (ah rfl) bb (d_ (b:=1))) (cv (ah rfl) (gm g)) (p9 (by omega)))) Rg).trans ?_))
 rw [hf,e_ hle,e_ (show k*g.n≤4*g.n by omega),e,gG,EX ok.row (by rw [ok.four];exact hk),L4 ok hk]
noncomputable def jB:List D→Option D:=kd (fun x:ae×Nat=>[tD x.1,iN x.2]) (fun x=>cP x.1∧x.2 < 4) (fun x=>iL (dJ x.1 x.2))
theorem eY {g:ae} {k:Nat} (ok:cP g) (hk:k < 4):jB [tD g,iN k]=some (iL (dJ g k)) :=
 b0 (x:=(g,k)) ⟨ok,hk⟩ fun y h hy=>by
  obtain ⟨a,b⟩:=y
  injection h with h1 h;injection h with h2 h
  rw [dM hy.1 ok h1,cy h2]
theorem An:∀ds d,jB ds=some d→bN 2 ly ds=some d:=fun ds d h=>by
 obtain ⟨x,rfl,hp,rfl⟩:=bf h
 exact yM hp.1 hp.2
end Tn
namespace Tn
open PySem Mi Xa
def oK:Ss:=(.cons (.ret (.comp (.nm 1) (.lst (.var 0)) .no (.ite (.op .gt (.var 1) (.int 0)) (.op .add (.gl "DIGIT_ZERO" (.int 48)) (.var 1)) (.gl "DOT" (.int 46)))) []) .nil)
theorem CJ (l:List Nat):bN 2 oK [iL l]=some (iL (l.map fG)):=by
 refine bc (aU ((d9 (eJ (ah rfl)) (dC iN (fun x=>iN (fG x)) l fun x hx=>⟨_,rfl,kC,Ut (p:=decide (0 < x)) (bu (ah rfl) bb (i9 (b:=0))) (fun h=>(bu bW (ah rfl) (d_ (a:=48))).trans ?_) (fun h=>bW.trans ?_)⟩)).trans (by rw [jq])))
 ·rw [decide_eq_true_eq] at h
  unfold fG
  rw [if_neg (by omega)]
 ·rw [decide_eq_false_iff_not] at h
  unfold fG
  rw [if_pos (by omega)];rfl
noncomputable def hZ:List D→Option D:=kd (fun x:List Nat=>[iL x]) (fun x=>True) (fun x=>iL (x.map fG))
theorem vH (l:List Nat):hZ [iL l]=some (iL (l.map fG)) :=
 b0 (x:=l) trivial fun y h hy=>by
  injection h with h1 h
  rw [fP h1]
theorem EY:∀ds d,hZ ds=some d→bN 2 oK ds=some d:=fun ds d h=>by
 obtain ⟨x,rfl,hp,rfl⟩:=bf h
 exact CJ x
noncomputable def mR:Ss:=(.cons (.asg 2 (.comp (.nm 3) (.pB (.fld (.var 0) "n")) .no (.call "line_clue" cf (.cons (.var 0) (.cons (.var 1) (.cons (.var 3) .nil))))) []) (.cons (.ret (.op .add (.op .add (.lst (.cons (.gl "BLANK" (.int 32)) .nil)) (.call "signs_of" hZ (.cons (.var 2) .nil))) (.lst (.cons (.gl "BLANK" (.int 32)) (.cons (.gl "LINE_END" (.int 10)) .nil)))) []) .nil))
def eR (g:ae) (k:Nat):List Nat:=32::(aq g.n).map (fun i=>fG (a6 g.clues k i))++[32,10]
theorem sj {g:ae} {k:Nat} (ok:cP g) (hk:k < 4):bF (.comp (.nm 3) (.pB (.fld (.var 0) "n")) .no (.call "line_clue" cf (.cons (.var 0) (.cons (.var 1) (.cons (.var 3) .nil))))) [some (tD g),some (iN k),none,none]=some (iL (dJ g k)) ∧
  bF (.op .add (.lst (.cons (.gl "BLANK" (.int 32)) .nil)) (.call "signs_of" hZ (.cons (.var 2) .nil))) [some (tD g),some (iN k),some (iL (dJ g k)),none]=some (iL (32::(dJ g k).map fG)):=by
 have hn:=ok.hi
 refine ⟨(d9 (iF (cv (ah rfl) (gm g)) (rh (by omega))) (dC iN (fun i=>iN (a6 g.clues k i)) (aq g.n) fun i hi=>⟨_,rfl,kC,aL §3 (dZ ok hk (aS.mp hi))⟩)).trans (by rw [jq];rfl),?_⟩
 exact bu (cE (ao bW aJ)) (aL §1 (vH _)) (mM (x:=32) (by unfold dJ;rw [af,af,aP];omega))
theorem L5 {g:ae} {k:Nat} (ok:cP g):iA .add (iL (32::(dJ g k).map fG)) (iL [32,10])=some (iL (eR g k)):=by
 have hn:=ok.hi
 rw [l7 (by unfold dJ;rw [ay,af,af,aP];show _+1+2≤1000;omega)]
 unfold eR dJ
 rw [a8];rfl
theorem EZ {ρ:eA}:bF (.lst (.cons (.gl "BLANK" (.int 32)) (.cons (.gl "LINE_END" (.int 10)) .nil))) ρ=some (iL [32,10]):=(cE (ao bW (ao bW aJ))).trans rfl
theorem Ao {g:ae} {k:Nat} (ok:cP g) (hk:k < 4):bN 4 mR [tD g,iN k]=some (iL (eR g k)):=by
 have a:bF (.comp (.nm 3) (.pB (.fld (.var 0) "n")) .no (.call "line_clue" cf (.cons (.var 0) (.cons (.var 1) (.cons (.var 3) .nil))))) (view (freeze [] [.fz (tD g),.fz (iN k),.no,.no]))=some (iL (dJ g k)):=(sj ok hk).1
 refine bc ((cH a).trans (aU (d:=iL (eR g k)) ?_))
 exact bu (sj ok hk).2 EZ (L5 ok)
noncomputable def i_:List D→Option D:=kd (fun x:ae×Nat=>[tD x.1,iN x.2]) (fun x=>cP x.1∧x.2 < 4) (fun x=>iL (eR x.1 x.2))
theorem CK {g:ae} {k:Nat} (ok:cP g) (hk:k < 4):i_ [tD g,iN k]=some (iL (eR g k)) :=
 b0 (x:=(g,k)) ⟨ok,hk⟩ fun y h hy=>by
  obtain ⟨a,b⟩:=y
  injection h with h1 h;injection h with h2 h
  rw [dM hy.1 ok h1,cy h2]
theorem CL:∀ds d,i_ ds=some d→bN 4 mR ds=some d:=fun ds d h=>by
 obtain ⟨x,rfl,hp,rfl⟩:=bf h
 exact Ao hp.1 hp.2
noncomputable def oM:Ss:=(.cons (.asg 2 (.op .add (.op .add (.lst (.cons (.call "line_clue" cf (.cons (.var 0) (.cons (.gl "LEFT" (.int 3)) (.cons (.var 1) .nil)))) .nil)) (.call "line_towers" cz (.cons (.var 0) (.cons (.gl "LEFT" (.int 3)) (.cons (.var 1) .nil))))) (.lst (.cons (.call "line_clue" cf (.cons (.var 0) (.cons (.gl "RIGHT" (.int 1)) (.cons (.var 1) .nil)))) .nil))) []) (.cons (.ret (.op .add (.call "signs_of" hZ (.cons (.var 2) .nil)) (.lst (.cons (.gl "LINE_END" (.int 10)) .nil))) []) .nil))
def rn (g:ae) (y:Nat):List Nat:=fG (a6 g.clues 3 y)::((aq g.n).map fun x=>fG (az g.town (y*g.n+x)))++[fG (a6 g.clues 1 y),10]
theorem CM {g:ae} {y:Nat} (ok:cP g) (hy:y < g.n):bN 3 oM [tD g,iN y]=some (iL (rn g y)):=by
 have hn:=ok.hi
 have hl:=iZ g 3 y
 have a1:=dZ (k:=3) ok (by decide) hy
 have a2:=dZ (k:=1) ok (by decide) hy
 refine bc ((cH (bu (bu (cE (ao (aL (ao (ah rfl) (ao bW §1)) a1) aJ)) (aL (ao (ah rfl) (ao bW §1)) (eh (k:=3) ok hy)) (mM (by omega))) (cE (ao (aL (ao (ah rfl) (ao bW §1)) a2) aJ)) (l7 (b:=[a6 g.clues 1 y]) (by rw [ay];show _+1+1≤1000;omega)))).trans ((aU (bu (aL §1 (vH _)) (cE (ao bW aJ)) (l7 (b:=[10]) (by rw [af,ax,ay];show _+1+1+1≤1000;omega)))).trans ?_))
 congr 3
 unfold rn dm aZ
 rw [bo,aN,a8,a8,de]
 rfl
noncomputable def mi:List D→Option D:=kd (fun x:ae×Nat=>[tD x.1,iN x.2]) (fun x=>cP x.1∧x.2 < x.1.n) (fun x=>iL (rn x.1 x.2))
theorem E1 {g:ae} {y:Nat} (ok:cP g) (hy:y < g.n):mi [tD g,iN y]=some (iL (rn g y)) :=
 b0 (x:=(g,y)) ⟨ok,hy⟩ fun y h hy=>by
  obtain ⟨a,b⟩:=y
  injection h with h1 h;injection h with h2 h
  rw [dM hy.1 ok h1,cy h2]
theorem E2:∀ds d,mi ds=some d→bN 3 oM ds=some d:=fun ds d h=>by
 obtain ⟨x,rfl,hp,rfl⟩:=bf h
 exact CM hp.1 hp.2
noncomputable def jX:Ss:=(.cons (.ext 1 (.call "row_line" mi (.cons (.var 0) (.cons (.var 2) .nil))) []) .nil)
noncomputable def mj:Ss:=(.cons (.jk (.nm 2) (.pB (.fld (.var 0) "n")) [] jX) (.cons (.ext 1 (.call "edge_line" i_ (.cons (.var 0) (.cons (.gl "BELOW" (.int 2)) .nil))) []) (.cons (.ret (.op .add (.lst (.cons (.un .len (.var 1)) .nil)) (.var 1)) [1]) .nil)))
theorem uZ {g:ae} (ok:cP g):cg mj [.fz (tD g),.ow ((eR g 0).map iN),.no]=some (.rt (dq (told g .text))):=by
 have hn:=ok.hi
 have hz:(1000:Nat)≤sizeLine:=by decide
 have el:∀k,(eR g k).length≤7:=fun k=>by unfold eR;rw [ax,ay,af,aP];show _+1+2≤7;omega
 have rl:∀y,(rn g y).length≤7:=fun k=>by unfold rn;rw [ax,ay,af,aP];show _+1+2≤7;omega
 obtain ⟨s',h,hb,_,x,rfl⟩:=dD (t:=.nm 2) (body:=cg jX) iN (fun acc y=>acc++rn g y)
  (fun b r s=>b.length+r.length*7≤100∧(∀y∈r,y < g.n)∧∃x,s=[.fz (tD g),.ow (b.map iN),x])
  (fun b y r s ⟨hb,hr,x,hs⟩=>by
   subst hs
   rw [ay] at hb
   have:=rl y
   refine ⟨_,[.fz (tD g),.ow ((b++rn g y).map iN),.fz (iN y)],rfl,?_,by rw [ax];omega,fun t ht=>hr t (by simp [ht]),_,rfl⟩
   refine (ye (aL §2 (E1 ok (hr y (by simp)))) ?_).trans rfl
   show (if (b.map iN).length+((rn g y).map iN).length≤sizeLine then some _ else none)=_
   rw [if_pos (by rw [af,af];omega),bo]
   rfl) (aq g.n) (eR g 0) [.fz (tD g),.ow ((eR g 0).map iN),.no] ⟨by have:=el 0;rw [aP];omega,fun i hi=>aS.mp hi,.no,rfl⟩
 rw [oI] at h hb
 rw [List.length_nil,kF,kH] at hb
 have:=el 2
 have e2:Cb [.fz (tD g),.ow ((eR g 0++(aq g.n).flatMap (rn g)).map iN),x] 1 ((eR g 2).map iN)=some [.fz (tD g),.ow ((eR g 0++(aq g.n).flatMap (rn g)++eR g 2).map iN),x]:=by
  show (if ((eR g 0++(aq g.n).flatMap (rn g)).map iN).length+((eR g 2).map iN).length≤sizeLine then some _ else none)=_
  rw [if_pos (by rw [af,af];omega),bo (l₂:=eR g 2)]
  rfl
 have e3:bF (.call "edge_line" i_ (.cons (.var 0) (.cons (.gl "BELOW" (.int 2)) .nil))) (view (freeze [] [.fz (tD g),.ow ((eR g 0++(aq g.n).flatMap (rn g)).map iN),x]))=some (iL (eR g 2)):=aL (ao (ah rfl) (ao bW aJ)) (CK (k:=2) ok (by decide))
 refine (eV (iF (cv (ah rfl) (gm g)) (rh (by omega))) h).trans ((ye (l:=(eR g 2).map iN) e3 e2).trans ?_)
 have hl:(eR g 0++(aq g.n).flatMap (rn g)++eR g 2).length≤999:=by rw [ax];omega
 have et:told g .text=vj (eR g 0++(aq g.n).flatMap (rn g)++eR g 2):=rfl
 rw [et]
 generalize eR g 0++(aq g.n).flatMap (rn g)++eR g 2=A at hl
 refine (aU (d:=iL (A.length::A)) ?_).trans rfl
 exact bu (cE (ao (fC (x:=iL A) (ah rfl) gP) aJ)) (ah rfl) (mM hl)
def fD (n:Nat) (t:List Nat):D:=.obj ["n","cells"] [iN n,iL t]
theorem CN {n m:Nat} {t u:List Nat} (h:fD n t=fD m u):n=m∧t=u:=by
 unfold fD at h
 injection h with _ h
 injection h with h1 h
 injection h with h2 h
 exact ⟨cy h1,fP h2⟩
theorem Rh (n:Nat) (t:List Nat):pX (fD n t) "n" = some (iN n):=by
 show look "n" ["n","cells"] _=_
 unfold look;rw [if_pos rfl]
theorem L6 (n:Nat) (t:List Nat):pX (fD n t) "cells" = some (iL t):=by
 show look "cells" ["n","cells"] _=_
 unfold look;rw [if_neg (by decide +kernel)];unfold look;rw [if_pos rfl]
noncomputable def gb:List D→Option D:=kd (fun x:Nat×List Nat×Nat×Nat=>[fD x.1 x.2.1,iN x.2.2.1,iN x.2.2.2]) (fun x=>x.1≤4∧x.2.1.length=x.1*x.1∧x.2.2.2 < x.1) (fun x=>iL ((aZ x.1 x.2.2.1 x.2.2.2).map (az x.2.1)))
theorem wc {n k i:Nat} {t:List Nat} (hn:n≤4) (ht:t.length=n*n) (hi:i < n):gb [fD n t,iN k,iN i]=some (iL ((aZ n k i).map (az t))) :=
 b0 (x:=(n,t,k,i)) ⟨hn,ht,hi⟩ fun y h hy=>by
  obtain ⟨a,b,c,d⟩:=y
  injection h with h1 h;injection h with h2 h;injection h with h3 _
  rw [(CN h1).1,(CN h1).2,cy h2,cy h3]
theorem wd:∀ds d,gb ds=some d→bN 4 gH ds=some d:=fun ds d h=>by
 obtain ⟨⟨n,t,k,i⟩,rfl,⟨hn,ht,hi⟩,rfl⟩:=bf h
 have hn:n≤4:=hn
 refine bc (aU ((d9 (eJ (aL (ao (cv (ah rfl) (Rh n t)) §2) (iK hn (bC hi (by omega)))))
  (dC iN (fun p=>iN (az t p)) (aZ n k i) fun p hp=>⟨_,rfl,kC,fE (cv (ah rfl) (L6 n t)) (ah rfl) (jo ?_)⟩)).trans (by rw [jq])))
 have ht:t.length=n*n:=ht
 rw [ht]
 exact oB hi hp
noncomputable def cI:Ss:=(.cons (.jj (.op .ne (.call "count_seen" di (.cons (.call "line_towers" gb (.cons (.var 0) (.cons (.op .fdiv (.var 3) (.fld (.var 0) "n")) (.cons (.op .mod (.var 3) (.fld (.var 0) "n")) .nil)))) .nil)) (.var 4)) (.cons (.jj (.op .gt (.un .len (.var 2)) (.int 0)) (.cons (.ret (.lst .nil) []) .nil) .nil) (.cons (.app 2 (.var 3) []) .nil)) .nil) .nil)
noncomputable def lz:Ss:=(.cons (.own 2 (.lst .nil) []) (.cons (.jk (.tp [3,4]) (.lst (.var 1)) [] cI) (.cons (.ret (.var 2) [2]) .nil)))
def isBad (n:Nat) (w:List Nat) (x:Nat×Nat):Bool:=dB n w (x.1 / n) (x.1 % n) != x.2
def ml (n:Nat) (w:List Nat) (T:List (Nat×Nat)):List Nat:=(T.filter (isBad n w)).map Prod.fst
theorem sk {n:Nat} {w:List Nat} {U:List (Nat×Nat)} (h1:1≤n) (hn:n≤4) (hw:w.length=n*n):∀(T:List (Nat×Nat)) (W:List Nat) (x y:Sl),W.length≤1 →
  ((W++ml n w T).length≤1→∃x' y',loop (.tp [3,4]) (cg cI) (T.map nM) [.fz (fD n w),.fz (.lst (U.map nM)),.ow (W.map iN),x,y]=some (.nx [.fz (fD n w),.fz (.lst (U.map nM)),.ow ((W++ml n w T).map iN),x',y'])) ∧
  (1 < (W++ml n w T).length→loop (.tp [3,4]) (cg cI) (T.map nM) [.fz (fD n w),.fz (.lst (U.map nM)),.ow (W.map iN),x,y]=some (.rt (.lst [])))
 | [],W,x,y,hW=>by
  have e:W++ml n w []=W:=by unfold ml;simp
  rw [e]
  exact ⟨fun _=>⟨x,y,by simp [loop]⟩,fun h=>by omega⟩
 | z::T,W,x,y,hW=>by
  have hz:(1000:Nat)≤sizeLine:=by decide
  have hm:z.1 % n < n:=wM _ (by omega)
  have ec:bF (.op .ne (.call "count_seen" di (.cons (.call "line_towers" gb (.cons (.var 0) (.cons (.op .fdiv (.var 3) (.fld (.var 0) "n")) (.cons (.op .mod (.var 3) (.fld (.var 0) "n")) .nil)))) .nil)) (.var 4)) (bx [.fz (fD n w),.fz (.lst (U.map nM)),.ow (W.map iN),.fz (iN z.1),.fz (iN z.2)])=some (.bl (isBad n w z)) :=
   (bu (aL (ao (aL (ao (ah rfl) (ao (bu (ah rfl) (cv (ah rfl) (Rh n w)) (Ii (by omega) (by omega))) (ao (bu (ah rfl) (cv (ah rfl) (Rh n w)) (LK (by omega))) aJ))) (wc hn hw hm)) aJ) (gI _)) (ah rfl) Er).trans (by rfl)
  have el:bF (.op .gt (.un .len (.var 2)) (.int 0)) (bx [.fz (fD n w),.fz (.lst (U.map nM)),.ow (W.map iN),.fz (iN z.1),.fz (iN z.2)])=some (.bl (decide (0 < W.length))):=bu (fC (ah rfl) (gP (l:=W))) bb (i9 (b:=0))
  have go:∀{o:Option Out} {s2:List Sl},cg cI [.fz (fD n w),.fz (.lst (U.map nM)),.ow (W.map iN),.fz (iN z.1),.fz (iN z.2)]=some (.nx s2)→loop (.tp [3,4]) (cg cI) (T.map nM) s2=o→loop (.tp [3,4]) (cg cI) ((z::T).map nM) [.fz (fD n w),.fz (.lst (U.map nM)),.ow (W.map iN),x,y]=o:=fun h1 h2=>by
   rw [aN,loop]
   show (cg cI [.fz (fD n w),.fz (.lst (U.map nM)),.ow (W.map iN),.fz (iN z.1),.fz (iN z.2)]).bind _=_
   rw [h1]
   exact h2
  cases hb:isBad n w z with
  | false =>
   rw [hb] at ec
   have eb:ml n w (z::T)=ml n w T:=by unfold ml;rw [c5,hb];rfl
   rw [eb]
   obtain ⟨i1,i2⟩:=sk (U:=U) h1 hn hw T W (.fz (iN z.1)) (.fz (iN z.2)) hW
   have st:cg cI [.fz (fD n w),.fz (.lst (U.map nM)),.ow (W.map iN),.fz (iN z.1),.fz (iN z.2)]=some (.nx [.fz (fD n w),.fz (.lst (U.map nM)),.ow (W.map iN),.fz (iN z.1),.fz (iN z.2)]):=(bX ec).trans rfl
   refine ⟨fun h=>?_,fun h=>go st (i2 h)⟩
   obtain ⟨x',y',h'⟩:=i1 h
   exact ⟨x',y',go st h'⟩
  | true =>
   rw [hb] at ec
   have eb:ml n w (z::T)=z.1::ml n w T:=by unfold ml;rw [c5,hb];rfl
   rw [eb]
   by_cases hW0:0 < W.length
   ·rw [decide_eq_true hW0] at el
    refine ⟨fun h=>by simp at h;omega,fun _=>?_⟩
    have st:cg cI [.fz (fD n w),.fz (.lst (U.map nM)),.ow (W.map iN),.fz (iN z.1),.fz (iN z.2)]=some (.rt (.lst [])):=bG ec (bG el (aU (cE aJ)))
    rw [aN,loop]
    show (cg cI [.fz (fD n w),.fz (.lst (U.map nM)),.ow (W.map iN),.fz (iN z.1),.fz (iN z.2)]).bind _=_
    rw [st];rfl
   ·have hW':W=[]:=l4 (by omega)
    subst hW'
    have st:cg cI [.fz (fD n w),.fz (.lst (U.map nM)),.ow [],.fz (iN z.1),.fz (iN z.2)]=some (.nx [.fz (fD n w),.fz (.lst (U.map nM)),.ow [iN z.1],.fz (iN z.1),.fz (iN z.2)]):=(jn ec ((bX el).trans ((yd (ah rfl) (by show (if 0+1≤sizeLine then some _ else none)=_;rw [if_pos (by omega)];rfl)).trans rfl))).trans rfl
    obtain ⟨i1,i2⟩:=sk (U:=U) h1 hn hw T [z.1] (.fz (iN z.1)) (.fz (iN z.2)) (by simp)
    refine ⟨fun h=>?_,fun h=>go st (i2 h)⟩
    obtain ⟨x',y',h'⟩:=i1 h
    exact ⟨x',y',go st h'⟩
theorem yN {n:Nat} {w:List Nat} {T:List (Nat×Nat)} (h1:1≤n) (hn:n≤4) (hw:w.length=n*n):bN 5 lz [fD n w,.lst (T.map nM)]=some (iL (Xb.kY (ml n w T))):=by
 obtain ⟨i1,i2⟩:=sk (U:=T) h1 hn hw T [] .no .no (by simp)
 rw [eZ] at i1 i2
 by_cases h:(ml n w T).length≤1
 ·obtain ⟨x,y,hl⟩:=i1 h
  refine bc ((oA (cE aJ)).trans ((eV (eJ (ah rfl)) hl).trans ((aU (ah rfl)).trans ?_)))
  unfold Xb.kY
  split
  ·rfl
  ·rw [l4 (show (ml n w T).length=0 by omega)];rfl
 ·refine bc ((oA (cE aJ)).trans ((tm (eJ (ah rfl)) (i2 (by omega))).trans ?_))
  unfold Xb.kY
  rw [if_neg (by omega)];rfl
theorem Ir {x y:Nat×Nat} (h:nM x=nM y):x=y:=by
 unfold nM at h
 injection h with h
 injection h with h1 h
 injection h with h2 h
 exact Prod.ext (cy h1) (cy h2)
noncomputable def jC:List D→Option D:=kd (fun x:Nat×List Nat×List (Nat×Nat)=>[fD x.1 x.2.1,.lst (x.2.2.map nM)]) (fun x=>1≤x.1∧x.1≤4∧x.2.1.length=x.1*x.1) (fun x=>iL (Xb.kY (ml x.1 x.2.1 x.2.2)))
theorem Aq {n:Nat} {w:List Nat} {T:List (Nat×Nat)} (h1:1≤n) (hn:n≤4) (hw:w.length=n*n):jC [fD n w,.lst (T.map nM)]=some (iL (Xb.kY (ml n w T))) :=
 b0 (x:=(n,w,T)) ⟨h1,hn,hw⟩ fun y h hy=>by
  obtain ⟨a,b,c⟩:=y
  injection h with h1 h;injection h with h2 h
  injection h2 with h2
  rw [(CN h1).1,(CN h1).2,map_inj (fun _ _=>Ir) h2]
theorem Ar:∀ds d,jC ds=some d→bN 5 lz ds=some d:=fun ds d h=>by
 obtain ⟨x,rfl,hp,rfl⟩:=bf h
 exact yN hp.1 hp.2.1 hp.2.2
end Tn
namespace Tn
open PySem Mi Xa
theorem yO (n:Nat) (f:Nat→Nat):∀m:Nat,(aq (m*n)).map f=(aq m).flatMap fun i=>(aq n).map fun j=>f (i*n+j)
 | 0=>by simp
 | m+1=>by
  rw [gc,gW,List.range_add,bo,yO n f m,List.range_succ,MO,a8]
  simp
theorem Iu {g:ae} {k:Nat} {f:Nat→Nat} (h:∀i j,i < g.n→j < g.n→f (i*g.n+j)=az g.town ((aZ g.n k i).getD j 0)):(aq (g.n*g.n)).map f=n_ g k:=by
 rw [yO]
 unfold n_
 apply Wy.kb
 intro i hi
 unfold dm aZ
 rw [a8]
 apply bQ
 intro j hj
 rw [aS] at hi hj
 rw [h i j hi hj]
 unfold aZ
 rw [aj,b8,mw hj]
 rfl
theorem Iv {n k i j:Nat} (hj:j < n) (f:Nat→Nat) (h:aZ n k i=(aq n).map f):(aZ n k i).getD j 0=f j:=by
 rw [h,aj,b8,mw hj]
 rfl
theorem JO (g:ae):zN g.n g.town=n_ g 2:=Iu fun i j hi hj=>by
 rw [Iv hj _ rfl,(show (i*g.n+j) % g.n=j by rw [eM,Dy,A7 hj]),(show (i*g.n+j) / g.n=i by rw [eM,Dx (by omega),lU hj,kH])]
 rfl
theorem E3 (g:ae):vk g.n g.town=n_ g 1:=Iu fun i j hi hj=>by
 rw [Iv hj _ rfl,(show (i*g.n+j) % g.n=j by rw [eM,Dy,A7 hj]),(show (i*g.n+j) / g.n=i by rw [eM,Dx (by omega),lU hj,kH])]
 rfl
theorem tL {g:ae} {k:Nat} (h4:g.n≤4):(dJ g k).reverse=(aq g.n).map fun i=>a6 g.clues k (g.n - 1 - i):=by
 unfold dJ
 rw [←gz,nZ h4,a8];rfl
theorem GS {g:ae} (h4:g.n≤4):(eT g.n g.clues).flatten=(dJ g 3).reverse++dJ g 0++(dJ g 1).reverse++dJ g 2:=by
 rw [tL h4,tL h4]
 unfold eT dJ
 simp
theorem CO {g:ae} (h4:g.n≤4):(dS g.n g.clues).flatten=(dJ g 0).reverse++dJ g 3++(dJ g 2).reverse++dJ g 1:=by
 rw [tL h4,tL h4]
 unfold dS dJ
 simp
theorem L7 {g:ae} (ok:cP g) (i:Nat):az g.town i≤g.n:=by
 unfold az
 rw [aj]
 cases h:g.town[i]? with
 | none=>exact c8 _
 | some x=>exact ok.Gy x (b7 h)
theorem Oi {g:ae} (ok:cP g) (k i:Nat):a6 g.clues k i≤g.n:=by
 unfold a6
 rw [aj]
 cases h:(g.clues.getD k [])[i]? with
 | none=>exact c8 _
 | some x =>
  cases hk:g.clues[k]? with
  | none=>rw [aj,hk] at h;simp at h
  | some l =>
   rw [aj,hk] at h
   exact ok.clue l (b7 hk) x (b7 h)
theorem ql {g:ae} (ok:cP g) {t:List Nat} (ht:t.length=g.n*g.n) (hm:∀x∈t,x≤g.n) {c:List (List Nat)} (h4:c.length=4) (hr:∀l∈c,l.length=g.n) (hc:∀l∈c,∀x∈l,x≤g.n):cP ⟨g.n,t,c⟩:=⟨ok.lo,ok.hi,ht,hm,h4,hr,hc⟩
theorem tN {g:ae} (ok:cP g) {t:List Nat} (ht:t.length=g.n*g.n) (hm:∀x∈t,x≤g.n):cP { g with town:=t }:=ql ok ht hm ok.four ok.row ok.clue
theorem L8 {g:ae} (ok:cP g) {k i v:Nat} (hv:v≤g.n) (hk:k < 4):cP { g with clues:=gf g.clues k i v }:=by
 have hkl:k < g.clues.length:=by rw [ok.four];exact hk
 have hg:g.clues.getD k []∈g.clues:=by
  rw [aj,au hkl]
  exact cS _
 refine ql ok ok.town ok.Gy (by unfold gf;rw [cO];exact ok.four) (fun l hl=>?_) fun l hl x hx=>?_
 ·rcases fS hl with hl|rfl
  ·exact ok.row l hl
  ·rw [cO];exact ok.row _ hg
 ·rcases fS hl with hl|rfl
  ·exact ok.clue l hl x hx
  ·rcases fS hx with hx|rfl
   ·exact ok.clue _ hg x hx
   ·exact hv
theorem E4:∀{c:List (List Nat)} {n k i v:Nat},(∀l∈c,l.length=n)→k < c.length→i < n→(c.set k ((c.getD k []).set i v)).flatten=c.flatten.set (k*n+i) v
 | [],_,_,_,_,_,h,_=>by simp at h
 | x::c,n,0,i,v,hc,_,hi=>by
  have hx:x.length=n:=hc x (by simp)
  rw [Nc,bz,bz,kF,cn,List.set_append_left _ _ (by omega)]
  rfl
 | x::c,n,k+1,i,v,hc,hk,hi=>by
  have hx:x.length=n:=hc x (by simp)
  have ih:=E4 (c:=c) (n:=n) (k:=k) (i:=i) (v:=v) (fun l hl=>hc l (by simp [hl])) (by simpa using hk) hi
  rw [Nd,bz,bz,List.set_append_right _ _ (by rw [gc];omega)]
  have e:(k+1)*n+i - x.length=k*n+i:=by rw [gc,gW,hx];omega
  rw [e,←ih]
  rfl
theorem L9 {g:ae} (ok:cP g) {k i v:Nat} (hk:k < 4) (hi:i < g.n):(gf g.clues k i v).flatten=g.clues.flatten.set (k*g.n+i) v :=
 E4 ok.row (by rw [ok.four];exact hk) hi
theorem CP:∀(l:List Nat) (m:Nat),dP m l≤l.length
 | [],_=>aW _
 | x::l,m=>by
  unfold dP
  have h1:=CP l x
  have h2:=CP l m
  rw [ay]
  split<;>omega
theorem Iw {g:ae} (ok:cP g):cP { g with clues:=cC g }:=by
 refine ql ok ok.town ok.Gy (by unfold cC;rw [af,aP]) (fun l hl=>?_) fun l hl x hx=>?_
 ·unfold cC at hl
  obtain ⟨k,_,rfl⟩:=ba.mp hl
  rw [af,aP]
 ·unfold cC at hl
  obtain ⟨k,_,rfl⟩:=ba.mp hl
  obtain ⟨i,_,rfl⟩:=ba.mp hx
  have:=CP ((aZ g.n k i).map (az g.town)) 0
  rw [af] at this
  unfold aZ at this
  rw [af,aP] at this
  exact this
theorem L_ {g:ae} (ok:cP g) (p:Nat→Nat) (a b c d:Nat→Nat×Nat):cP ⟨g.n,(aq (g.n*g.n)).map fun i=>az g.town (p i),[(aq g.n).map fun i=>a6 g.clues (a i).1 (a i).2,(aq g.n).map fun i=>a6 g.clues (b i).1 (b i).2,(aq g.n).map fun i=>a6 g.clues (c i).1 (c i).2,(aq g.n).map fun i=>a6 g.clues (d i).1 (d i).2]⟩:=by
 refine ql ok (by rw [af,aP]) (fun x hx=>?_) rfl (fun l hl=>?_) fun l hl x hx=>?_
 ·obtain ⟨i,_,rfl⟩:=ba.mp hx
  exact L7 ok _
 ·simp only [aF,bS,or_false] at hl
  rcases hl with rfl|rfl|rfl|rfl<;>rw [af,aP]
 ·simp only [aF,bS,or_false] at hl
  rcases hl with rfl|rfl|rfl|rfl<;>(obtain ⟨i,_,rfl⟩:=ba.mp hx;exact Oi ok _ _)
theorem Ma {g:ae} (ok:cP g):cP ⟨g.n,zN g.n g.town,eT g.n g.clues⟩ :=
 L_ ok (fun p=>(g.n - 1 - p % g.n)*g.n+p / g.n) (fun i=>(3,g.n - 1 - i)) (fun i=>(0,i)) (fun i=>(1,g.n - 1 - i)) fun i=>(2,i)
theorem GU {g:ae} (ok:cP g):cP ⟨g.n,vk g.n g.town,dS g.n g.clues⟩ :=
 L_ ok (fun p=>p / g.n*g.n+(g.n - 1 - p % g.n)) (fun i=>(0,g.n - 1 - i)) (fun i=>(3,i)) (fun i=>(2,g.n - 1 - i)) fun i=>(1,i)
theorem yP {g:ae} (ok:cP g):cP { g with clues:=Xb.z4 g.n }:=by
 refine ql ok ok.town ok.Gy (by unfold Xb.z4;rw [c9]) (fun l hl=>?_) fun l hl x hx=>?_
 ·unfold Xb.z4 at hl
  rw [(vN.mp hl).2,c9]
 ·unfold Xb.z4 at hl
  rw [(vN.mp hl).2] at hx
  rw [(vN.mp hx).2]
  exact c8 _
theorem Oj (n:Nat):(Xb.z4 n).flatten=aG (4*n) 0:=by
 unfold Xb.z4
 rw [List.flatten_replicate_replicate]
theorem JP {g:ae} (ok:cP g) {w:List Nat} (hw:w∈a9 g):w≠g.clues.flatten:=fun e=>by
 have hf:g.clues.flatten.length=4*g.n:=by rw [iQ ok.row,ok.four]
 obtain ⟨hl,hb⟩:=qe ok w hw
 have hn:=ok.hi
 have W2:=ok.lo
 have h4:g.n=4:=by
  have h:g.n*g.n=4*g.n:=by rw [←hl,e,hf]
  exact Nat.eq_of_mul_eq_mul_right (by omega) h
 unfold a9 nL at hw
 obtain ⟨h1,h2⟩:=cN.mp hw
 obtain ⟨L,hL,eL⟩:=ba.mp h1
 obtain ⟨r1,r2⟩:=xh ok g.n 0 [] (fun q hq=>by simp at hq) L hL
 have Uu:∀(m:Nat) (L:List (List Nat)),L∈iG g.n g.town g.clues (m+1) 0 []→L.getD 0 []∈jf g 3 0:=fun m L hL=>by
  unfold iG at hL
  obtain ⟨r,hr,hL⟩:=gA.mp hL
  obtain ⟨s,rfl⟩:=Xb.yE m 1 ([]++[r]) L hL
  exact (cN.mp hr).1
 have hq:L.getD 0 []∈jf g 3 0:=Uu 3 L (by rw [h4] at hL;rw [h4];exact hL)
 rw [Ie,iZ] at hq
 have hq:=(cN.mp hq).1
 rw [h4] at hq
 have XC:∀q∈perms 4,4∈q:=by decide +kernel
 have Jg:=XC _ hq
 obtain ⟨i,hi,ei⟩:=List.getElem_of_mem Jg
 have hL4:L.length=4:=by rw [r2,h4];rfl
 have Xz:(L.getD 0 []).length=g.n:=by
  rw [aj,au (by omega)]
  exact (r1 _ (cS _)).1
 have Ri:i < g.n:=by omega
 have ew:w.getD i 0=4:=by
  have:=(iM (fun q hq=>(r1 q hq).1) (show 0 < L.length by omega) Ri).2
  rw [kF,cn,eL] at this
  rw [this,aj,au hi,ei]
  rfl
 have ec:a6 g.clues 0 i=4:=by
  have:=(iM ok.row (show 0 < g.clues.length by rw [ok.four];decide) Ri).2
  rw [kF,cn,←e,ew] at this
  exact this.symm
 unfold ud at h2
 have h3:=aX.mp h2 i (aS.mpr Ri)
 rw [ag,ec] at h3
 have h5:=h3.1
 have es:dB g.n w 0 i=1:=by
  unfold dB aZ
  rw [h4]
  show dP 0 (az w (0*4+i)::_)=1
  have e0:az w (0*4+i)=4:=by rw [kF,cn];exact ew
  rw [e0]
  unfold dP
  rw [if_pos (by decide),Xc.EU]
  intro x hx
  simp only [aN,xC,aF,bS,or_false] at hx
  have hle:∀p,az w p≤4:=fun p=>by
   unfold az
   rw [aj]
   cases h:w[p]? with
   | none=>exact c8 _
   | some y=>rw [←h4];exact (hb y (b7 h)).2
  rcases hx with rfl|rfl|rfl<;>exact hle _
 rw [es] at h5
 exact absurd h5 (by decide)
def rL (g:ae):List (Nat×Nat):=(g.clues.flatten.zipIdx.filter fun p=>decide (0 < p.1)).map fun p=>(p.2,p.1)
def Iy (g:ae):List Nat:=(aq (4*g.n)).filter fun z=>a6 g.clues (z / g.n) (z % g.n) != 0
theorem CQ:∀(l:List Nat),l.zipIdx=(aq l.length).map fun z=>(l.getD z 0,z):=fun l=>by
 apply ky
 intro i
 rw [List.getElem?_zipIdx,b8]
 by_cases h:i < l.length
 ·rw [au h,mw h]
  simp [aj,au h]
 ·rw [bY (by omega),bY (by rw [aP];omega)]
  rfl
theorem Iz {g:ae} (ok:cP g):rL g=(Iy g).map fun z=>(z,a6 g.clues (z / g.n) (z % g.n)):=by
 have hf:g.clues.flatten.length=4*g.n:=by rw [iQ ok.row,ok.four]
 unfold rL Iy
 rw [CQ,hf,jF,a8]
 have hg:∀z∈aq (4*g.n),g.clues.flatten.getD z 0=a6 g.clues (z / g.n) (z % g.n):=fun z hz=>by
  obtain ⟨p1,p2,p3⟩:=Xb.sh ok.lo (aS.mp hz)
  have:=(iM ok.row (show z / g.n < g.clues.length by rw [ok.four];exact p1) p2).2
  rw [p3] at this
  exact this
 have e:(aq (4*g.n)).filter ((fun p:Nat×Nat=>decide (0 < p.1))∘fun z=>(g.clues.flatten.getD z 0,z))=(aq (4*g.n)).filter fun z=>a6 g.clues (z / g.n) (z % g.n) != 0:=by
  apply cV
  intro z hz
  show decide (0 < g.clues.flatten.getD z 0)=_
  rw [hg z hz]
  cases a6 g.clues (z / g.n) (z % g.n)<;>rfl
 rw [e]
 apply bQ
 intro z hz
 show (z,g.clues.flatten.getD z 0)=_
 rw [hg z (cN.mp hz).1]
theorem Mb {g:ae} (ok:cP g) (w:List Nat):ml g.n w (rL g)=Xb.hJ g.n g.clues w:=by
 unfold ml Xb.hJ
 rw [Iz ok,jF,a8]
 unfold Iy
 rw [fI]
 have:(Prod.fst∘fun z=>(z,a6 g.clues (z / g.n) (z % g.n)))=(id:Nat→Nat):=rfl
 rw [this,A8]
 apply cV
 intro z _
 rw [FN]
 rfl
def mS (g:ae):List (List Nat):=nL g.n g.town (Xb.z4 g.n)
def vI (g:ae):List Nat:=(mS g).flatMap fun w=>Xb.kY (ml g.n w (rL g))
theorem JQ {g:ae} (ok:cP g):((rL g).filter fun x=>!decide (x.1∈vI g)).map Prod.fst=mx g:=by
 have hr:∀L∈iG g.n g.town (Xb.z4 g.n) g.n 0 [],(∀q∈L,q.length=g.n)∧L.length=g.n:=fun L hL=>by
  obtain ⟨h1,h2⟩:=xh (yP ok) g.n 0 [] (fun q hq=>by simp at hq) L hL
  exact ⟨fun q hq=>(h1 q hq).1,by rw [h2,List.length_nil,cn]⟩
 rw [Iz ok,jF,a8]
 have:(Prod.fst∘fun z=>(z,a6 g.clues (z / g.n) (z % g.n)))=(id:Nat→Nat):=rfl
 rw [this,A8]
 unfold Iy mx
 rw [fI]
 apply cV
 intro z hz
 rw [FN]
 show (a6 g.clues (z / g.n) (z % g.n) != 0&&!decide (z∈vI g))=_
 cases hc:(a6 g.clues (z / g.n) (z % g.n) != 0) with
 | false=>rfl
 | true =>
  rw [ji,ji]
  have hs:=Xb.JM ok.lo ok.hi hr ok.four ok.row (aS.mp hz) (bne_iff_ne.mp hc)
  have hm:z∈vI g ↔ ∃w∈nL g.n g.town (Xb.z4 g.n),Xb.kY (Xb.hJ g.n g.clues w)=[z]:=by
   unfold vI
   rw [gA]
   constructor
   ·rintro ⟨w,hw,h⟩
    refine ⟨w,hw,?_⟩
    rw [Mb ok] at h
    unfold Xb.kY at h ⊢
    split at h
    ·rename_i hl
     rw [if_pos hl]
     match hq:Xb.hJ g.n g.clues w,hl,h with
     | [x],_,h=>rw [bZ] at h;rw [h]
    ·simp at h
   ·rintro ⟨w,hw,h⟩
    exact ⟨w,hw,by rw [Mb ok,h];simp⟩
  rw [←hm] at hs
  by_cases h:z∈vI g
  ·rw [decide_eq_true h]
   have:¬(nL g.n g.town (gf g.clues (z / g.n) (z % g.n) 0)).length=(nL g.n g.town g.clues).length:=fun e=>hs.mp e h
   exact (beq_eq_false_iff_ne.mpr this).symm
  ·rw [decide_eq_false h]
   exact (beq_iff_eq.mpr (hs.mpr h)).symm
end Tn
namespace Tn
theorem xp {g:ae} (ok:cP g) {i h:Nat} (hh:h≤g.n):cP { g with town:=g.town.set i h } :=
 tN ok (by rw [cO];exact ok.town) fun x hx=>by
  rcases fS hx with hx|rfl
  ·exact ok.Gy x hx
  ·exact hh
end Tn
namespace Tn
open PySem Mi Xa
noncomputable def zP (c:Kh321.Call):List D→Option D:=kd (fun x:ae=>[tD x]) (fun x=>cP x) (fun x=>dq (told x c))
noncomputable def M1 (c:Nat→Kh321.Call):List D→Option D:=kd (fun x:ae×Nat=>[tD x.1,iN x.2]) (fun x=>cP x.1) (fun x=>dq (told x.1 (c x.2)))
noncomputable def Pl (c:Nat→Nat→Kh321.Call):List D→Option D:=kd (fun x:ae×Nat×Nat=>[tD x.1,iN x.2.1,iN x.2.2]) (fun x=>cP x.1) (fun x=>dq (told x.1 (c x.2.1 x.2.2)))
theorem M3 {c:Kh321.Call} {g:ae} (ok:cP g):zP c [tD g]=some (dq (told g c)) :=
 b0 (x:=g) ok fun y h hy=>by injection h with h1 h;rw [dM hy ok h1]
theorem Vv {c:Nat→Kh321.Call} {g:ae} {i:Nat} (ok:cP g):M1 c [tD g,iN i]=some (dq (told g (c i))) :=
 b0 (x:=(g,i)) ok fun y h hy=>by
  obtain ⟨a,b⟩:=y
  injection h with h1 h;injection h with h2 h
  rw [dM hy ok h1,cy h2]
theorem at2 {c:Nat→Nat→Kh321.Call} {g:ae} {k i:Nat} (ok:cP g):Pl c [tD g,iN k,iN i]=some (dq (told g (c k i))) :=
 b0 (x:=(g,k,i)) ok fun y h hy=>by
  obtain ⟨a,b,d⟩:=y
  injection h with h1 h;injection h with h2 h;injection h with h3 h
  rw [dM hy ok h1,cy h2,cy h3]
theorem Rj {c:Kh321.Call} {r:List D→Option D} (h:∀g,cP g→r [tD g]=some (dq (told g c))):∀ds d,zP c ds=some d→r ds=some d:=fun ds d e=>by
 obtain ⟨x,rfl,hp,rfl⟩:=bf e
 exact h x hp
theorem Vw {c:Nat→Kh321.Call} {r:List D→Option D} (h:∀g i,cP g→r [tD g,iN i]=some (dq (told g (c i)))):∀ds d,M1 c ds=some d→r ds=some d:=fun ds d e=>by
 obtain ⟨x,rfl,hp,rfl⟩:=bf e
 exact h x.1 x.2 hp
theorem XD {c:Nat→Nat→Kh321.Call} {r:List D→Option D} (h:∀g k i,cP g→r [tD g,iN k,iN i]=some (dq (told g (c k i)))):∀ds d,Pl c ds=some d→r ds=some d:=fun ds d e=>by
 obtain ⟨x,rfl,hp,rfl⟩:=bf e
 exact h x.1 x.2.1 x.2.2 hp
noncomputable def gC:List D→Option D:=kd (fun x:ae×List (Nat×Nat)=>[tD x.1,.lst (x.2.map nM)]) (fun x=>cP x.1) (fun x=>iL ((mS x.1).flatMap fun w=>Xb.kY (ml x.1.n w x.2)))
theorem u0 {g:ae} {T:List (Nat×Nat)} (ok:cP g):gC [tD g,.lst (T.map nM)]=some (iL ((mS g).flatMap fun w=>Xb.kY (ml g.n w T))) :=
 b0 (x:=(g,T)) ok fun y h hy=>by
  obtain ⟨a,b⟩:=y
  injection h with h1 h;injection h with h2 h
  injection h2 with h2
  rw [dM hy ok h1,map_inj (fun _ _=>Ir) h2]
noncomputable def mm:Ss:=(.cons (.jj (.op .eq (.un .len (.call "town_ways" dE (.cons (.var 0) .nil))) (.int 0)) (.cons (.ret (.lst (.cons (.gl "NO_WAY" (.int (-33))) .nil)) []) .nil) .nil) (.cons (.asg 1 (.comp (.tp [4,5]) (.enum (.fld (.var 0) "clues")) (.yes (.op .gt (.var 5) (.int 0))) (.tup (.cons (.var 4) (.cons (.var 5) .nil)))) []) (.cons (.asg 2 (.call "needed_places" gC (.cons (.var 0) (.cons (.var 1) .nil))) []) (.cons (.asg 3 (.comp (.tp [4,5]) (.lst (.var 1)) (.yes (.op .rF (.var 4) (.var 2))) (.var 4)) []) (.cons (.ret (.op .add (.lst (.cons (.un .len (.var 3)) .nil)) (.var 3)) []) .nil)))))
theorem u1 {g:ae} (ok:cP g):bN 6 mm [tD g]=some (dq (told g .spare)):=by
 have hn:=ok.hi
 have et:told g .spare=match a9 g with|[]=>aw (-33)|_=>vj (mx g):=by
  show (match a9 g with|[]=>_|_=>_:Option aD×aT).2=_
  cases a9 g<;>rfl
 rw [et]
 have ec:bF (.op .eq (.un .len (.call "town_ways" dE (.cons (.var 0) .nil))) (.int 0)) (bx [.fz (tD g),.no,.no,.no,.no,.no])=some (.bl (decide ((a9 g).length=0))):=bu (fC (aL §1 (fL ok)) iV) bb (fA (b:=0))
 cases hA:a9 g with
 | nil =>
  rw [hA] at ec
  exact bc (bG (ec.trans rfl) (aU (cE (ao bW aJ))))
 | cons q l =>
  rw [hA] at ec
  have e1:bF (.comp (.tp [4,5]) (.enum (.fld (.var 0) "clues")) (.yes (.op .gt (.var 5) (.int 0))) (.tup (.cons (.var 4) (.cons (.var 5) .nil)))) (view (freeze [] [.fz (tD g),.no,.no,.no,.no,.no]))=some (.lst ((rL g).map nM)):=by
   refine (d9 ((w_ (cv (ah rfl) (nY g))).trans (by rw [tF])) (g8 (fun p:Nat×Nat=>D.tup [iN p.2,iN p.1]) (fun p=>decide (0 < p.1)) (fun p=>nM (p.2,p.1)) g.clues.flatten.zipIdx fun p hp=>⟨_,rfl,oz (bu (ah rfl) bb (i9 (b:=0))),fun _=>tj §2⟩)).trans ?_
   unfold rL
   rw [a8];rfl
  have e2:bF (.call "needed_places" gC (.cons (.var 0) (.cons (.var 1) .nil))) (view (freeze [] [.fz (tD g),.fz (.lst ((rL g).map nM)),.no,.no,.no,.no]))=some (iL (vI g)):=aL §2 (u0 ok)
  have e3:bF (.comp (.tp [4,5]) (.lst (.var 1)) (.yes (.op .rF (.var 4) (.var 2))) (.var 4)) (view (freeze [] [.fz (tD g),.fz (.lst ((rL g).map nM)),.fz (iL (vI g)),.no,.no,.no]))=some (iL (mx g)):=by
   refine (d9 (eJ (ah rfl)) (g8 nM (fun x=>!decide (x.1∈vI g)) (fun x=>iN x.1) (rL g) fun x hx=>⟨_,rfl,oz (bu (ah rfl) (ah rfl) yf),fun _=>ah rfl⟩)).trans ?_
   rw [jq,←JQ ok]
  have hl:(mx g).length≤999:=by
   unfold mx
   exact aO (fM _ _) (by rw [aP];omega)
  exact bc ((bX (ec.trans (by rw [decide_eq_false (by simp)]))).trans ((cH e1).trans ((cH e2).trans ((cH e3).trans ((aU (bu (cE (ao (fC (ah rfl) gP) aJ)) (ah rfl) (mM hl))).trans rfl)))))
noncomputable def Vx:List D→Option D:=kd (fun x:ae×Nat×Nat=>[xo x]) (fun x=>cP x.1) (fun x=>dq (si x))
theorem Mc {x y:ae×Nat×Nat} (hx:cP x.1) (hy:cP y.1) (h:xo x=xo y):x=y:=by
 obtain ⟨h1,h2,h3,h4,h5⟩:=CI h
 have:x.1=y.1:=dM hx hy (by unfold tD;rw [h1,h2,h3])
 exact Prod.ext this (Prod.ext h4 h5)
theorem Uv {x:ae×Nat×Nat} (ok:cP x.1):Vx [xo x]=some (dq (si x)) :=
 b0 (x:=x) ok fun y h hy=>by injection h with h1 h;rw [Mc hy ok h1]
theorem Uw:∀ds d,Vx ds=some d→bN 1 jz ds=some d:=fun ds d e=>by
 obtain ⟨x,rfl,hp,rfl⟩:=bf e
 exact uX x
def kZ (p:Nat) (xs:List Nat):Kh321.Call:=match p with
 | 1=>.build (xs.getD 0 0) (xs.getD 1 0)|2=>.tear (xs.getD 0 0)|3=>.tell (xs.getD 0 0) (xs.getD 1 0) (xs.getD 2 0)
 | 4=>.at_ (xs.getD 0 0)|5=>.seen (xs.getD 0 0) (xs.getD 1 0)|6=>.clue (xs.getD 0 0) (xs.getD 1 0)|7=>.clash|8=>.done|9=>.count
 | 10=>.nth (xs.getD 0 0)|11=>.sure (xs.getD 0 0)|12=>.could (xs.getD 0 0)|13=>.known|14=>.line (xs.getD 0 0) (xs.getD 1 0)|15=>.hint|16=>.solve
 | 17=>.fill (xs.getD 0 0)|18=>.spare|19=>.views|20=>.clear|21=>.ask|22=>.turn|23=>.mirror|24=>.text|25=>.back|26=>.again|_=>.state
noncomputable def jY:Ss:=(.cons (.jj (.op .eq (.var 1) (.gl "COUNT" (.int 9))) (.cons (.ret (.call "answer_count" (zP .count) (.cons (.var 0) .nil)) []) .nil) .nil) (.cons (.jj (.op .eq (.var 1) (.gl "NTH" (.int 10))) (.cons (.ret (.call "answer_nth" (M1 .nth) (.cons (.var 0) (.cons (.ix (.var 2) (.int 0)) .nil))) []) .nil) .nil) (.cons (.jj (.op .eq (.var 1) (.gl "SURE" (.int 11))) (.cons (.ret (.call "answer_sure" (M1 .sure) (.cons (.var 0) (.cons (.ix (.var 2) (.int 0)) .nil))) []) .nil) .nil) (.cons (.jj (.op .eq (.var 1) (.gl "COULD" (.int 12))) (.cons (.ret (.call "answer_could" (M1 .could) (.cons (.var 0) (.cons (.ix (.var 2) (.int 0)) .nil))) []) .nil) .nil) (.cons (.jj (.op .eq (.var 1) (.gl "KNOWN" (.int 13))) (.cons (.ret (.call "answer_known" (zP .known) (.cons (.var 0) .nil)) []) .nil) .nil) (.cons (.ret (.call "answer_spare" (zP .spare) (.cons (.var 0) .nil)) []) .nil))))))
noncomputable def gM:Ss:=(.cons (.jj (.op .eq (.var 1) (.gl "AT" (.int 4))) (.cons (.ret (.call "answer_at" (M1 .at_) (.cons (.var 0) (.cons (.ix (.var 2) (.int 0)) .nil))) []) .nil) .nil) (.cons (.jj (.op .eq (.var 1) (.gl "SEEN" (.int 5))) (.cons (.ret (.call "answer_seen" (Pl .seen) (.cons (.var 0) (.cons (.ix (.var 2) (.int 0)) (.cons (.ix (.var 2) (.int 1)) .nil)))) []) .nil) .nil) (.cons (.jj (.op .eq (.var 1) (.gl "CLUE" (.int 6))) (.cons (.ret (.call "answer_clue" (Pl .clue) (.cons (.var 0) (.cons (.ix (.var 2) (.int 0)) (.cons (.ix (.var 2) (.int 1)) .nil)))) []) .nil) .nil) (.cons (.jj (.op .eq (.var 1) (.gl "LINE" (.int 14))) (.cons (.ret (.call "answer_line" (Pl .line) (.cons (.var 0) (.cons (.ix (.var 2) (.int 0)) (.cons (.ix (.var 2) (.int 1)) .nil)))) []) .nil) .nil) (.cons (.jj (.op .eq (.var 1) (.gl "CLASH" (.int 7))) (.cons (.ret (.call "answer_clash" (zP .clash) (.cons (.var 0) .nil)) []) .nil) .nil) (.cons (.jj (.op .eq (.var 1) (.gl "DONE" (.int 8))) (.cons (.ret (.call "answer_done" (zP .done) (.cons (.var 0) .nil)) []) .nil) .nil) (.cons (.jj (.op .eq (.var 1) (.gl "HINT" (.int 15))) (.cons (.ret (.call "answer_hint" (zP .hint) (.cons (.var 0) .nil)) []) .nil) .nil) (.cons (.jj (.op .eq (.var 1) (.gl "VIEWS" (.int 19))) (.cons (.ret (.call "answer_views" (zP .views) (.cons (.var 0) .nil)) []) .nil) .nil) (.cons (.jj (.op .eq (.var 1) (.gl "TEXT" (.int 24))) (.cons (.ret (.call "answer_text" (zP .text) (.cons (.var 0) .nil)) []) .nil) .nil) (.cons (.ret (.call "answer_state" Vx (.cons (.var 0) .nil)) []) .nil))))))))))
def arity:List Nat:=[1,2,1,3,1,2,2,0,0,0,1,1,1,0,2,0,0,1,0,0,0,0,0,0,0,0,0,0]
theorem GV {xs:List Nat} (h:xs.length=0):xs=[]:=l4 h
theorem Md {xs:List Nat} (h:xs.length=1):∃x,xs=[x]:=by
 match xs,h with
 | [x],_=>exact ⟨x,rfl⟩
theorem Rk {xs:List Nat} (h:xs.length=2):∃x y,xs=[x,y]:=by
 match xs,h with
 | [x,y],_=>exact ⟨x,y,rfl⟩
theorem Vy {xs:List Nat} (h:xs.length=3):∃x y z,xs=[x,y,z]:=by
 match xs,h with
 | [x,y,z],_=>exact ⟨x,y,z,rfl⟩
theorem YB {p c:Nat} {x:Str} {s:List Sl} (h:fv (bx s) 1=some (iN p)):bF (.op .eq (.var 1) (.gl x (.int c))) (bx s)=some (.bl (decide (p=c))):=bu (ah h) bW (fA (b:=c))
theorem Rl {p c:Nat} (h:p≠c):some (D.bl (decide (p=c)))=some (.bl false):=by rw [decide_eq_false h]
theorem Ux {p:Nat}:some (D.bl (decide (p=p)))=some (.bl true):=by rw [decide_eq_true rfl]
macro "§n" : term=>`(bX ((YB rfl).trans (Rl (by decide))))
macro "§y" : term=>`((YB rfl).trans Ux)
macro "§i" : term=>`(fE (ah rfl) bb rfl)
theorem E5 {g:ae} (ok:cP g):∀(p:Nat) (xs:List Nat),p∈[9,10,11,12,13,18]→xs.length=arity.getD p 0→bN 3 jY [tD g,iN p,iL xs]=some (dq (told g (kZ p xs))):=fun p xs hp hl=>by
 simp only [aF,bS,or_false] at hp
 rcases hp with rfl|rfl|rfl|rfl|rfl|rfl
 ·obtain rfl:=GV hl
  exact bc (bG §y (aU (aL §1 (M3 ok))))
 ·obtain ⟨x,rfl⟩:=Md hl
  exact bc (§n.trans (bG §y (aU (aL (ao (ah rfl) (ao §i aJ)) (Vv ok)))))
 ·obtain ⟨x,rfl⟩:=Md hl
  exact bc (§n.trans (§n.trans (bG §y (aU (aL (ao (ah rfl) (ao §i aJ)) (Vv ok))))))
 ·obtain ⟨x,rfl⟩:=Md hl
  exact bc (§n.trans (§n.trans (§n.trans (bG §y (aU (aL (ao (ah rfl) (ao §i aJ)) (Vv ok)))))))
 ·obtain rfl:=GV hl
  exact bc (§n.trans (§n.trans (§n.trans (§n.trans (bG §y (aU (aL §1 (M3 ok))))))))
 ·obtain rfl:=GV hl
  exact bc (§n.trans (§n.trans (§n.trans (§n.trans (§n.trans (aU (aL §1 (M3 ok))))))))
theorem E6 {g:ae} (ok:cP g):∀(p:Nat) (xs:List Nat),p∈[4,5,6,14,7,8,15,19,24]→xs.length=arity.getD p 0→bN 3 gM [tD g,iN p,iL xs]=some (dq (told g (kZ p xs))):=fun p xs hp hl=>by
 simp only [aF,bS,or_false] at hp
 rcases hp with rfl|rfl|rfl|rfl|rfl|rfl|rfl|rfl|rfl
 ·obtain ⟨x,rfl⟩:=Md hl
  exact bc (bG §y (aU (aL (ao (ah rfl) (ao §i aJ)) (Vv ok))))
 ·obtain ⟨x,y,rfl⟩:=Rk hl
  exact bc (§n.trans (bG §y (aU (aL (ao (ah rfl) (ao §i (ao §i aJ))) (at2 ok)))))
 ·obtain ⟨x,y,rfl⟩:=Rk hl
  exact bc (§n.trans (§n.trans (bG §y (aU (aL (ao (ah rfl) (ao §i (ao §i aJ))) (at2 ok))))))
 ·obtain ⟨x,y,rfl⟩:=Rk hl
  exact bc (§n.trans (§n.trans (§n.trans (bG §y (aU (aL (ao (ah rfl) (ao §i (ao §i aJ))) (at2 ok)))))))
 ·obtain rfl:=GV hl
  exact bc (§n.trans (§n.trans (§n.trans (§n.trans (bG §y (aU (aL §1 (M3 ok))))))))
 ·obtain rfl:=GV hl
  exact bc (§n.trans (§n.trans (§n.trans (§n.trans (§n.trans (bG §y (aU (aL §1 (M3 ok)))))))))
 ·obtain rfl:=GV hl
  exact bc (§n.trans (§n.trans (§n.trans (§n.trans (§n.trans (§n.trans (bG §y (aU (aL §1 (M3 ok))))))))))
 ·obtain rfl:=GV hl
  exact bc (§n.trans (§n.trans (§n.trans (§n.trans (§n.trans (§n.trans (§n.trans (bG §y (aU (aL §1 (M3 ok)))))))))))
 ·obtain rfl:=GV hl
  exact bc (§n.trans (§n.trans (§n.trans (§n.trans (§n.trans (§n.trans (§n.trans (§n.trans (bG §y (aU (aL §1 (M3 ok))))))))))))
theorem BI {x:ae×Nat×Nat} (ok:cP x.1):bN 3 gM [xo x,iN 27,iL []]=some (dq (si x)) :=
 bc (§n.trans (§n.trans (§n.trans (§n.trans (§n.trans (§n.trans (§n.trans (§n.trans (§n.trans (aU (aL §1 (Uv ok))))))))))))
noncomputable def M4 (ps:List Nat):List D→Option D:=kd (fun x:ae×Nat×List Nat=>[tD x.1,iN x.2.1,iL x.2.2]) (fun x=>cP x.1∧x.2.1∈ps∧x.2.2.length=arity.getD x.2.1 0) (fun x=>dq (told x.1 (kZ x.2.1 x.2.2)))
theorem Pn {ps:List Nat} {g:ae} {p:Nat} {xs:List Nat} (ok:cP g) (hp:p∈ps) (hl:xs.length=arity.getD p 0):M4 ps [tD g,iN p,iL xs]=some (dq (told g (kZ p xs))) :=
 b0 (x:=(g,p,xs)) ⟨ok,hp,hl⟩ fun y h hy=>by
  obtain ⟨a,b,c⟩:=y
  injection h with h1 h;injection h with h2 h;injection h with h3 h
  rw [dM hy.1 ok h1,cy h2,fP h3]
theorem Me {ps:List Nat} {r:List D→Option D} (h:∀g,cP g→∀p xs,p∈ps→xs.length=arity.getD p 0→r [tD g,iN p,iL xs]=some (dq (told g (kZ p xs)))):∀ds d,M4 ps ds=some d→r ds=some d:=fun ds d e=>by
 obtain ⟨x,rfl,hp,rfl⟩:=bf e
 exact h x.1 hp.1 x.2.1 x.2.2 hp.2.1 hp.2.2
noncomputable def XE:List D→Option D:=kd (fun x:ae×Nat×Nat=>[xo x,iN 27,iL []]) (fun x=>cP x.1) (fun x=>dq (si x))
theorem Uy {x:ae×Nat×Nat} (ok:cP x.1):XE [xo x,iN 27,iL []]=some (dq (si x)) :=
 b0 (x:=x) ok fun y h hy=>by injection h with h1 h;rw [Mc hy ok h1]
theorem Uz:∀ds d,XE ds=some d→bN 3 gM ds=some d:=fun ds d e=>by
 obtain ⟨x,rfl,hp,rfl⟩:=bf e
 exact BI hp
end Tn
namespace Tn
inductive Cl where
 | st (n:Nat) (t:List Nat)
 | op (p:Nat) (xs:List Nat)
abbrev zs (l:List Nat):List Int:=l.map fun x:Nat=>(x:Int)
def Cl.flat:Cl→List Nat
 | .st n t=>0::n::t.length::t
 | .op p xs=>p::xs
def Cl.raw:Cl→List (List Int)
 | .st n t=>[[0,(n:Int)],zs t]
 | .op p xs=>[zs (p::xs)]
def Cl.Wf:Cl→Prop
 | .st n t=>n < 2 ^ 32∧t.length≤100∧∀b∈t,b < 256
 | .op p xs=>1≤p∧p≤27∧xs.length+1=q5.getD p 0∧∀x∈xs,x < 2 ^ 32
def Cl.call (k:Cl):Kh321.Call:=Kh321Neutral.callOf1 k.raw
theorem Mf (c:List (List Int)):PyKh321.whole c=c:=by
 unfold PyKh321.whole
 split<;>rfl
theorem Mg:∀(l:List Int),(∀z∈l,0≤z)→∃m:List Nat,l=zs m∧m=l.map Int.toNat
 | [],_=>⟨[],rfl,rfl⟩
 | z::l,h=>by
  obtain ⟨m,e1,e2⟩:=Mg l fun y hy=>h y (by simp [hy])
  refine ⟨z.toNat::m,?_,by rw [aN,e2]⟩
  have:=h z (by simp)
  show z::l=((z.toNat:Nat):Int)::zs m
  rw [←e1,nt this]
theorem qm {z:Int} (h:BU z 32=true):0≤z∧z < 2 ^ 32:=by
 unfold BU at h
 rw [ag,decide_eq_true_eq,decide_eq_true_eq] at h
 exact h
theorem Mh {h:List Int} (a:fQ [h]=true):∃k:Cl,k.Wf∧k.raw=[h]∧zs k.flat=h:=by
 unfold fQ at a
 rw [ag,ag,aX] at a
 obtain ⟨a1,a2,a3⟩:=a
 unfold DA at a1
 rw [ag,decide_eq_true_eq,decide_eq_true_eq] at a1
 rw [beq_iff_eq] at a2
 cases h with
 | nil=>simp at a1
 | cons p xs =>
  have hp:(1:Int)≤p∧p≤27:=a1
  obtain ⟨m,e1,e2⟩:=Mg xs fun z hz=>(qm (a3 z (by simp [hz]))).1
  have ep:((p.toNat:Nat):Int)=p:=nt (by omega)
  refine ⟨.op p.toNat m,⟨by omega,by omega,?_,fun x hx=>?_⟩,?_,?_⟩
  ·have:(p::xs).length=q5.getD p.toNat 0:=a2
   rw [←this,e1,ay,af]
  ·rw [e2,ba] at hx
   obtain ⟨z,hz,rfl⟩:=hx
   have:=qm (a3 z (by simp [hz]))
   omega
  ·show [((p.toNat:Nat):Int)::zs m]=_
   rw [ep,←e1]
  ·show ((p.toNat:Nat):Int)::zs m=_
   rw [ep,←e1]
theorem Mj {x y:Int} {t:List Int} {n:Int} (a:fQ [[x,y],t]=true) (hn:n.toNat=t.length) (h0:0≤n):∃k:Cl,k.Wf∧k.raw=[[x,y],t]∧zs k.flat=x::y::n::t:=by
 unfold fQ at a
 rw [ag,ag,ag,aX] at a
 obtain ⟨a1,a2,a3,a4⟩:=a
 have hx:x=0:=beq_iff_eq.mp a1
 have hy:=qm (a3 y (by simp))
 unfold Kh321Neutral.isBytes at a4
 rw [ag,decide_eq_true_eq,aX] at a4
 have hb:∀z∈t,0≤z∧z≤255:=fun z hz=>by
  have:=a4.2 z hz
  unfold DA at this
  rw [ag,decide_eq_true_eq,decide_eq_true_eq] at this
  exact this
 obtain ⟨m,e1,e2⟩:=Mg t fun z hz=>(hb z hz).1
 have ey:((y.toNat:Nat):Int)=y:=nt hy.1
 have el:m.length=t.length:=by rw [e2,af]
 have en:((m.length:Nat):Int)=n:=by rw [el,←hn];exact nt h0
 refine ⟨.st y.toNat m,⟨by omega,by rw [el];exact a4.1,fun b RV=>?_⟩,?_,?_⟩
 ·rw [e2,ba] at RV
  obtain ⟨z,hz,rfl⟩:=RV
  have:=hb z hz
  omega
 ·show [[(0:Int),((y.toNat:Nat):Int)],zs m]=_
  rw [ey,←e1,hx]
 ·show (0:Int)::((y.toNat:Nat):Int)::((m.length:Nat):Int)::zs m=_
  rw [ey,en,←e1,hx]
theorem UA {c:Prop} [Decidable c] {a n k:Nat} {X:Option (Nat×Nat)} (h:(if c then some (a,0) else X)=some (n,k)) (hX:X=some (n,k)→k=0):k=0:=by
 by_cases hc:c
 ·rw [if_pos hc] at h
  injection h with h
  injection h with h1 h2
  exact h2.symm
 ·rw [if_neg hc] at h
  exact hX h
theorem JR {p:Int} {n k:Nat} (h:PyKh321.shape p=some (n,k)):(k=1∧n=1∧p=0)∨k=0:=by
 by_cases h0:p=0
 ·subst h0
  have:some ((1:Nat),(1:Nat))=some (n,k):=h
  injection this with this
  injection this with h1 h2
  exact .inl ⟨h2.symm,h1.symm,rfl⟩
 ·right
  unfold PyKh321.shape at h
  rw [if_neg h0] at h
  iterate 27 refine UA h fun h=>?_
  cases h
theorem Ml {l t:List Int} {c:List (List Int)} (h:PyFlat.call PyKh321.shape l=some (c,t)) (a:fQ c=true):∃k:Cl,k.Wf∧k.raw=c∧l=zs k.flat++t:=by
 cases l with
 | nil=>cases h
 | cons p r =>
  have h:(match PyKh321.shape p with|none=>none|some (n,k)=>if r.length < n then none else match PyFlat.rows k (r.drop n) with|none=>none|some (xs,t)=>some ((p::r.take n)::xs,t))=some (c,t):=h
  cases hs:PyKh321.shape p with
  | none=>rw [hs] at h;cases h
  | some nk =>
   obtain ⟨n,k⟩:=nk
   rw [hs] at h
   simp only [] at h
   by_cases hr:r.length < n
   ·rw [if_pos hr] at h;cases h
   ·rw [if_neg hr] at h
    rcases JR hs with ⟨rfl,rfl,rfl⟩|rfl
    ·cases r with
     | nil=>simp at hr
     | cons y r =>
      have e:PyFlat.rows 1 ((y::r).drop 1)=match PyFlat.row r with|none=>none|some (x,s)=>some ([x],s):=by
       show (match PyFlat.row r with|none=>none|some (x,s)=>match PyFlat.rows 0 s with|none=>none|some (xs,t)=>some (x::xs,t))=_
       cases PyFlat.row r<;>rfl
      rw [e] at h
      cases r with
      | nil=>cases h
      | cons m r =>
       by_cases hm:0≤m∧m.toNat≤r.length
       ·have e2:PyFlat.row (m::r)=some (r.take m.toNat,r.drop m.toNat):=if_pos hm
        rw [e2] at h
        injection h with h
        injection h with h1 h2
        have h1:c=[[0,y],r.take m.toNat]:=h1.symm
        subst h1 h2
        obtain ⟨k,w,e3,e4⟩:=Mj (n:=m) a (by rw [c0];omega) hm.1
        refine ⟨k,w,e3,?_⟩
        rw [e4]
        show 0::y::m::r=0::y::m::(r.take m.toNat++r.drop m.toNat)
        rw [J3]
       ·have e2:PyFlat.row (m::r)=none:=if_neg hm
        rw [e2] at h
        cases h
    ·have e:PyFlat.rows 0 (r.drop n)=some ([],r.drop n):=rfl
     rw [e] at h
     injection h with h
     injection h with h1 h2
     have h1:c=[p::r.take n]:=h1.symm
     subst h1 h2
     obtain ⟨k,w,e3,e4⟩:=Mh a
     refine ⟨k,w,e3,?_⟩
     rw [e4]
     show p::r=p::(r.take n++r.drop n)
     rw [J3]
theorem BJ:∀(f:Nat) (l:List Int) (cs:List (List (List Int))),PyFlat.calls PyKh321.shape f l=some cs→(∀c∈cs,fQ c=true)→∃ks:List Cl,(∀k∈ks,k.Wf)∧cs=ks.map Cl.raw∧l=zs (ks.flatMap Cl.flat)
 | _,[],cs,h,_=>by
  have:cs=[]:=by
   unfold PyFlat.calls at h
   exact (bA.inj h).symm
  subst this
  exact ⟨[],fun k hk=>by simp at hk,rfl,rfl⟩
 | 0,p::r,cs,h,_=>by cases h
 | f+1,p::r,cs,h,a=>by
  have h:(match PyFlat.call PyKh321.shape (p::r) with|none=>none|some (c,t)=>match PyFlat.calls PyKh321.shape f t with|none=>none|some cs=>some (c::cs))=some cs:=h
  cases hc:PyFlat.call PyKh321.shape (p::r) with
  | none=>rw [hc] at h;cases h
  | some ct =>
   obtain ⟨c,t⟩:=ct
   rw [hc] at h
   simp only [] at h
   cases hs:PyFlat.calls PyKh321.shape f t with
   | none=>rw [hs] at h;cases h
   | some ds =>
    rw [hs] at h
    injection h with h
    subst h
    obtain ⟨k,w,e1,e2⟩:=Ml hc (a c (by simp))
    obtain ⟨ks,w2,e3,e4⟩:=BJ f t ds hs fun d hd=>a d (by simp [hd])
    refine ⟨k::ks,?_,by rw [aN,e1,e3],?_⟩
    ·intro j hj
     rcases aF.mp hj with rfl|hj
     ·exact w
     ·exact w2 j hj
    ·rw [e2,e4,b_]
     show _=(k.flat++ks.flatMap Cl.flat).map _
     rw [bo]
def u4 (a:aT):List Int:=a.ret::a.out.map Int.ofNat
def kj:Option aD→List Cl→List Int
 | _,[]=>[]
 | s,k::ks=>((u4 (aY s k.call).2).length:Int)::(u4 (aY s k.call).2++kj (aY s k.call).1 ks)
theorem BK:∀(ks:List Cl) (s:Option aD),PyFlat.told (PyFlat.played FI s (ks.map Cl.raw))=kj s ks
 | [],_=>rfl
 | k::ks,s=>by
  rw [aN,PyFlat.played]
  unfold PyFlat.told
  rw [b_]
  have ih:=BK ks (aY s k.call).1
  unfold PyFlat.told at ih
  show (_::u4 (aY s k.call).2)++(PyFlat.played FI (aY s k.call).1 (ks.map Cl.raw)).flatMap _=_
  rw [ih]
  rfl
theorem Rm {l:List Int} (h:PyKh321.answers_asked l=true):∃ks:List Cl,(∀k∈ks,k.Wf)∧ks.length≤200∧l=zs (ks.flatMap Cl.flat)∧PyKh321.answers l=kj none ks∧(PyKh321.answers l).length≤10000000:=by
 unfold PyKh321.answers_asked at h
 cases hc:PyFlat.calls PyKh321.shape l.length l with
 | none=>rw [hc] at h;cases h
 | some raw =>
  rw [hc] at h
  simp only [ag] at h
  obtain ⟨⟨⟨⟨_,h2⟩,_⟩,h4⟩,h5⟩:=h
  have ew:raw.map PyKh321.whole=raw:=by
   have:PyKh321.whole=id:=funext Mf
   rw [this,A8]
  rw [ew] at h4
  unfold Kh321Neutral.asked at h4
  rw [ag,aX] at h4
  obtain ⟨ks,w,e1,e2⟩:=BJ l.length l raw hc h4.2
  refine ⟨ks,w,?_,e2,?_,by unfold PyFlat.short at h5;rw [decide_eq_true_eq] at h5;exact h5⟩
  ·unfold PyFlat.atMost at h2
   rw [decide_eq_true_eq,e1,af] at h2
   exact h2
  ·unfold PyKh321.answers PyKh321.calls
   rw [hc]
   simp only []
   rw [ew,e1]
   exact BK ks none
end Tn
namespace Mi
open PySem PySem.Spec PyProof.Rows L2
section
variable {K:aa} {σ:L2.St} {H:Hp} {ρ:eA}
theorem gD {ev:eA→Option D} {d:D} {Q:VK} (sl:Slots K H σ ρ) (e:ev ρ=some d) (q:∀v H',bT H H'→Den K H' d v→Q v H'):tM K ev σ H Q :=
 ⟨H,ρ,d,same_refl H,sl,e,fun v F' H' ex dn=>q v H' ex.hh (cT ex.fh _ _ dn)⟩
theorem jg {ev:eA→Option (List D)} {l:List D} {Q:VK} (sl:Slots K H σ ρ) (e:ev ρ=some l) (q:∀p vs H',bT H H'→H p=none→H' p=some (.lst vs)→l.length≤sizeLine→cG K H' l vs→Q (.ref p) H'):J8 K ev σ H Q :=
 ⟨H,ρ,l,same_refl H,sl,e,fun p vs F' H' ex hp fp hv hz dl=>q p vs H' ex.hh hp hv hz (cD ex.fh _ _ dl)⟩
theorem gj {ev:eA→Option D} {b:Bool} {Q:Bool→Hp→Prop} (sl:Slots K H σ ρ) (e:ev ρ=some (.bl b)) (q:∀H',bT H H'→Q b H'):sR K (fun ρ=>(ev ρ).bind fB) σ H Q :=
 ⟨H,ρ,b,same_refl H,sl,Bo e rfl,fun F' H' ex=>q H' ex.hh⟩
theorem aI:Slots K H [] []:=⟨rfl,fun i d e=>by simp [fv] at e⟩
theorem aA {v:V} {d:D} (h:Den K H d v) (s:Slots K H σ ρ):Slots K H (some v::σ) (some d::ρ):=by
 refine ⟨by simp [s.len],fun i x e=>?_⟩
 cases i with
 | zero =>
  have:x=d:=by simp [fv] at e;exact e.symm
  subst this
  exact ⟨v,rfl,h⟩
 | succ i=>exact s.den i x e
theorem ak {o:Option V} (s:Slots K H σ ρ):Slots K H (o::σ) (none::ρ):=by
 refine ⟨by simp [s.len],fun i x e=>?_⟩
 cases i with
 | zero=>simp [fv] at e
 | succ i=>exact s.den i x e
theorem yQ {C A dx:Addr} {gs:List (Str×V)} {ns:List Str} {ds:List D} {vs:List V} (h:H A=some (.ins C dx gs)) (c:MT K C) (f:MY K C gs ns vs) (d:cG K H ds vs):Den K H (.obj ns ds) (.ref A):=by
 unfold Den
 exact ⟨A,C,dx,gs,vs,rfl,h,c,f,d⟩
theorem tO {C:Addr} {gs:List (Str×V)}:MY K C gs [] []:=by unfold MY;rfl
theorem gE {C:Addr} {gs:List (Str×V)} {n:Str} {ns:List Str} {v:V} {vs:List V} (a:iY K C n) (l:gs.lookup n=some v) (r:MY K C gs ns vs):MY K C gs (n::ns) (v::vs):=by
 unfold MY;exact ⟨v,vs,rfl,a,l,r⟩
end
end Mi
namespace Tn
open PySem PySem.Spec PyProof.Rows L2 Mi
def vL (l:List Nat):List V:=l.map fun x:Nat=>V.int x
theorem mn {K:aa} {H:Hp}:∀l:List Nat,cG K H (l.map iN) (vL l)
 | []=>bU
 | x::l=>bB (bO _) (mn l)
theorem nJ {K:aa} {H:Hp} {a:Addr} {l:List Nat} (h:H a=some (.lst (vL l))) (hz:l.length≤1000):Den K H (iL l) (.ref a) :=
 f9 (by rw [af];exact aO hz (by decide)) h (mn l)
theorem qo {K:aa} {H:Hp}:∀{l:List Nat} {vs:List V},cG K H (l.map iN) vs→vs=vL l
 | [],vs,h=>bL h
 | x::l,vs,h=>by
  obtain ⟨v,r,rfl,h1,h2⟩:=bJ h
  rw [bD h1,qo h2];rfl
theorem h7 {K:aa} {H:Hp} {l:List Nat} {v:V} (h:Den K H (iL l) v):∃p,v=.ref p∧H p=some (.lst (vL l)):=by
 obtain ⟨_,p,vs,rfl,h1,h2⟩:=dd h
 rw [qo h2] at h1
 exact ⟨p,rfl,h1⟩
def mD (g:ae):D:=.tup [iL g.town,iL g.clues.flatten]
structure Own where
 c:Addr
 k:Addr
 e:Addr
 l:Addr
structure Own.Ap (w:Own):Prop where
 ck:w.c≠w.k
 ce:w.c≠w.e
 cl:w.c≠w.l
 ke:w.k≠w.e
 kl:w.k≠w.l
 el:w.e≠w.l
def Own.has (w:Own) (A b:Addr):Prop:=b=A∨b=w.c∨b=w.k∨b=w.e∨b=w.l
structure TS (K:aa) (C:Addr) (F H:Hp) (A:Addr) (w:Own) (a:aD):Prop where
 ex:∃dx gs,H A=some (.ins C dx gs)∧gs.lookup ("n" : Str)=some (.int a.now.n)∧gs.lookup ("cells" : Str)=some (.ref w.c)∧gs.lookup ("clues" : Str)=some (.ref w.k)∧gs.lookup ("earlier" : Str)=some (.ref w.e)∧gs.lookup ("later" : Str)=some (.ref w.l)∧gs.length≤20
 hc:H w.c=some (.lst (vL a.now.town))
 hk:H w.k=some (.lst (vL a.now.clues.flatten))
 he:∃vs,H w.e=some (.lst vs)∧cG K F (a.undo.reverse.map mD) vs
 hl:∃vs,H w.l=some (.lst vs)∧cG K F (a.redo.reverse.map mD) vs
 fh:bT F H
 nf:∀b,w.has A b→F b=none
 ap:w.Ap
structure oN (K:aa) (C:Addr):Prop where
 cl:MT K C
 n:iY K C "n"
 cells:iY K C "cells"
 clues:iY K C "clues"
 km:iY K C "earlier"
 later:iY K C "later"
structure iR (A:Addr) (F H:Hp) (O:Addr→Prop) (F' H':Hp) (w':Own):Prop where
 keep:∀b o,H b=some o→¬O b→H' b=some o
 zQ:∀b,H' b=none→H b=none
 ff:bT F F'
 nw:∀b,F b=none→H b≠none→F' b=none
 ow:∀b,w'.has A b→O b∨H b=none
abbrev jZ (A:Addr) (F H:Hp) (w:Own) (F' H':Hp) (w':Own):Prop:=iR A F H (w.has A) F' H' w'
section
variable {A:Addr} {F H F1 H1 F2 H2:Hp} {w w1 w2:Own} {O:Addr→Prop}
theorem jZ.refl:jZ A F H w F H w:=⟨fun _ _ h _=>h,fun _ h=>h,same_refl F,fun _ h _=>h,fun _ h=>.inl h⟩
theorem iR.same (s:iR A F H O F1 H1 w1) (e:bT H1 H2):iR A F H O F1 H2 w1 :=
 ⟨fun b o h n=>e _ _ (s.keep b o h n),fun b h=>s.zQ b (same_none e h),s.ff,s.nw,s.ow⟩
theorem iR.ext (s:iR A F H O F1 H1 w1) (e:Ext F1 H1 F2 H2):iR A F H O F2 H2 w1 :=
 ⟨fun b o h n=>e.hh _ _ (s.keep b o h n),fun b h=>s.zQ b (same_none e.hh h),s.ff.trans e.ff,fun b h1 h2=>e.nw b (s.nw b h1 h2) fun h3=>h2 (s.zQ b h3),s.ow⟩
theorem iR.put (s:iR A F H O F1 H1 w1) {b:Addr} (hb:w1.has A b) (o:HO):iR A F H O F1 (upd H1 b o) w1 :=
 ⟨fun b' o' h n=>by
  have kI:b'≠b:=fun e=>by
   subst e
   rcases s.ow b' hb with q|q
   ·exact n q
   ·rw [q] at h;cases h
  rw [aM kI];exact s.keep b' o' h n,
 fun b' h=>by
  by_cases e:b'=b
  ·subst e;rw [aK] at h;cases h
  ·rw [aM e] at h;exact s.zQ b' h,s.ff,s.nw,s.ow⟩
theorem iR.own (s:iR A F H O F1 H1 w1) (h:∀b,w2.has A b→O b∨H b=none):iR A F H O F1 H1 w2:=⟨s.keep,s.zQ,s.ff,s.nw,h⟩
theorem iR.fc (s:iR A F H O F1 H1 w1) {p:Addr} (hp:O p∨H p=none) (o:HO):iR A F H O F1 (upd H1 A o) { w1 with c:=p }:=(s.put (.inl rfl) o).own fun b hb=>by
 rcases hb with q|q|q|q|q
 ·exact s.ow b (.inl q)
 ·exact q▸hp
 ·exact s.ow b (.inr (.inr (.inl q)))
 ·exact s.ow b (.inr (.inr (.inr (.inl q))))
 ·exact s.ow b (.inr (.inr (.inr (.inr q))))
theorem iR.fk (s:iR A F H O F1 H1 w1) {p:Addr} (hp:O p∨H p=none) (o:HO):iR A F H O F1 (upd H1 A o) { w1 with k:=p }:=(s.put (.inl rfl) o).own fun b hb=>by
 rcases hb with q|q|q|q|q
 ·exact s.ow b (.inl q)
 ·exact s.ow b (.inr (.inl q))
 ·exact q▸hp
 ·exact s.ow b (.inr (.inr (.inr (.inl q))))
 ·exact s.ow b (.inr (.inr (.inr (.inr q))))
theorem iR.fe (s:iR A F H O F1 H1 w1) {p:Addr} (hp:O p∨H p=none) (o:HO):iR A F H O F1 (upd H1 A o) { w1 with e:=p }:=(s.put (.inl rfl) o).own fun b hb=>by
 rcases hb with q|q|q|q|q
 ·exact s.ow b (.inl q)
 ·exact s.ow b (.inr (.inl q))
 ·exact s.ow b (.inr (.inr (.inl q)))
 ·exact q▸hp
 ·exact s.ow b (.inr (.inr (.inr (.inr q))))
theorem iR.fl (s:iR A F H O F1 H1 w1) {p:Addr} (hp:O p∨H p=none) (o:HO):iR A F H O F1 (upd H1 A o) { w1 with l:=p }:=(s.put (.inl rfl) o).own fun b hb=>by
 rcases hb with q|q|q|q|q
 ·exact s.ow b (.inl q)
 ·exact s.ow b (.inr (.inl q))
 ·exact s.ow b (.inr (.inr (.inl q)))
 ·exact s.ow b (.inr (.inr (.inr (.inl q))))
 ·exact q▸hp
theorem iR.trans (s:iR A F H O F1 H1 w1) (t:jZ A F1 H1 w1 F2 H2 w2):iR A F H O F2 H2 w2 :=
 ⟨fun b o h n=>t.keep b o (s.keep b o h n) fun q=>(s.ow b q).elim n fun q=>(by rw [q] at h;cases h),
 fun b h=>s.zQ b (t.zQ b h),s.ff.trans t.ff,fun b h1 h2=>t.nw b (s.nw b h1 h2) fun h3=>h2 (s.zQ b h3),fun b hb=>by
  rcases t.ow b hb with q|q
  ·exact s.ow b q
  ·exact .inr (s.zQ b q)⟩
end
theorem yR {f:Str} {v:V}:∀{gs:List (Str×V)} {u:V},gs.lookup f=some u→(cX f v gs).length=gs.length
 | [],u,h=>by simp at h
 | (k,x)::r,u,h=>by
  rw [show cX f v ((k,x)::r)=(if k=f then (k,v)::r else (k,x)::cX f v r) from rfl]
  by_cases hk:k=f
  ·rw [if_pos hk];rfl
  ·rw [if_neg hk,ay,ay]
   rw [cQ,beq_false_of_ne (Ne.symm hk)] at h
   rw [yR h]
section
variable {K:aa} {C A:Addr} {F H F' H':Hp} {w:Own} {a:aD}
theorem TS.same (t:TS K C F H A w a) (s:bT H H'):TS K C F H' A w a:=by
 obtain ⟨dx,gs,h1,h2⟩:=t.ex
 obtain ⟨vs,e1,e2⟩:=t.he
 obtain ⟨us,l1,l2⟩:=t.hl
 exact ⟨⟨dx,gs,s _ _ h1,h2⟩,s _ _ t.hc,s _ _ t.hk,⟨vs,s _ _ e1,e2⟩,⟨us,s _ _ l1,l2⟩,t.fh.trans s,t.nf,t.ap⟩
theorem TS.has (t:TS K C F H A w a) {b:Addr} (h:w.has A b):H b≠none:=by
 obtain ⟨dx,gs,h1,_⟩:=t.ex
 obtain ⟨vs,e1,_⟩:=t.he
 obtain ⟨us,l1,_⟩:=t.hl
 rcases h with rfl|rfl|rfl|rfl|rfl
 ·rw [h1];exact fun z=>nomatch z
 ·rw [t.hc];exact fun z=>nomatch z
 ·rw [t.hk];exact fun z=>nomatch z
 ·rw [e1];exact fun z=>nomatch z
 ·rw [l1];exact fun z=>nomatch z
theorem TS.ext (t:TS K C F H A w a) (e:Ext F H F' H'):TS K C F' H' A w a:=by
 have t1:=t.same e.hh
 obtain ⟨vs,e1,e2⟩:=t1.he
 obtain ⟨us,l1,l2⟩:=t1.hl
 exact ⟨t1.ex,t1.hc,t1.hk,⟨vs,e1,cD e.ff _ _ e2⟩,⟨us,l1,cD e.ff _ _ l2⟩,e.fh,fun b hb=>e.nw b (t.nf b hb) (t.has hb),t.ap⟩
theorem TS.off (t:TS K C F H A w a) {b:Addr} (hb:¬w.has A b) (hf:F b=none) (o:HO):TS K C F (upd H b o) A w a:=by
 have ne:∀x,w.has A x→upd H b o x=H x:=fun x hx=>aM fun e=>hb (e▸hx)
 obtain ⟨dx,gs,h1,h2⟩:=t.ex
 obtain ⟨vs,e1,e2⟩:=t.he
 obtain ⟨us,l1,l2⟩:=t.hl
 exact ⟨⟨dx,gs,by rw [ne _ (.inl rfl)];exact h1,h2⟩,by rw [ne _ (.inr (.inl rfl))];exact t.hc,by rw [ne _ (.inr (.inr (.inl rfl)))];exact t.hk,
  ⟨vs,by rw [ne _ (.inr (.inr (.inr (.inl rfl))))];exact e1,e2⟩,⟨us,by rw [ne _ (.inr (.inr (.inr (.inr rfl))))];exact l1,l2⟩,fun x u e=>by
   rw [aM fun z=>by subst z;rw [hf] at e;cases e]
   exact t.fh x u e,t.nf,t.ap⟩
theorem TS.nA (t:TS K C F H A w a):A≠w.c∧A≠w.k∧A≠w.e∧A≠w.l:=by
 obtain ⟨dx,gs,h1,_⟩:=t.ex
 obtain ⟨vs,e1,_⟩:=t.he
 obtain ⟨us,l1,_⟩:=t.hl
 exact ⟨nQ h1 t.hc (fun z=>nomatch z),nQ h1 t.hk (fun z=>nomatch z),nQ h1 e1 (fun z=>nomatch z),nQ h1 l1 (fun z=>nomatch z)⟩
theorem jD (s:bT F H) {b:Addr} (hf:F b=none) (o:HO):bT F (upd H b o):=fun x u e=>by
 rw [aM fun z=>by subst z;rw [hf] at e;cases e]
 exact s x u e
theorem TS.cells (t:TS K C F H A w a) (l:List Nat):TS K C F (upd H w.c (.lst (vL l))) A w { a with now:={ a.now with town:=l } }:=by
 obtain ⟨n1,n2,n3,n4⟩:=t.nA
 obtain ⟨dx,gs,h1,h2⟩:=t.ex
 obtain ⟨vs,e1,e2⟩:=t.he
 obtain ⟨us,l1,l2⟩:=t.hl
 exact ⟨⟨dx,gs,by rw [aM n1];exact h1,h2⟩,aK,by rw [aM t.ap.ck.symm];exact t.hk,⟨vs,by rw [aM t.ap.ce.symm];exact e1,e2⟩,⟨us,by rw [aM t.ap.cl.symm];exact l1,l2⟩,jD t.fh (t.nf _ (.inr (.inl rfl))) _,t.nf,t.ap⟩
theorem TS.clues (t:TS K C F H A w a) (c:List (List Nat)):TS K C F (upd H w.k (.lst (vL c.flatten))) A w { a with now:={ a.now with clues:=c } }:=by
 obtain ⟨n1,n2,n3,n4⟩:=t.nA
 obtain ⟨dx,gs,h1,h2⟩:=t.ex
 obtain ⟨vs,e1,e2⟩:=t.he
 obtain ⟨us,l1,l2⟩:=t.hl
 exact ⟨⟨dx,gs,by rw [aM n2];exact h1,h2⟩,by rw [aM t.ap.ck];exact t.hc,aK,⟨vs,by rw [aM t.ap.ke.symm];exact e1,e2⟩,⟨us,by rw [aM t.ap.kl.symm];exact l1,l2⟩,jD t.fh (t.nf _ (.inr (.inr (.inl rfl)))) _,t.nf,t.ap⟩
theorem TS.Ol (t:TS K C F H A w a) (u:List ae) {vs:List V} (h:cG K F (u.reverse.map mD) vs):TS K C F (upd H w.e (.lst vs)) A w { a with undo:=u }:=by
 obtain ⟨n1,n2,n3,n4⟩:=t.nA
 obtain ⟨dx,gs,h1,h2⟩:=t.ex
 obtain ⟨us,l1,l2⟩:=t.hl
 exact ⟨⟨dx,gs,by rw [aM n3];exact h1,h2⟩,by rw [aM t.ap.ce];exact t.hc,by rw [aM t.ap.ke];exact t.hk,⟨vs,aK,h⟩,⟨us,by rw [aM t.ap.el.symm];exact l1,l2⟩,jD t.fh (t.nf _ (.inr (.inr (.inr (.inl rfl))))) _,t.nf,t.ap⟩
theorem TS.UB (t:TS K C F H A w a) (u:List ae) {vs:List V} (h:cG K F (u.reverse.map mD) vs):TS K C F (upd H w.l (.lst vs)) A w { a with redo:=u }:=by
 obtain ⟨n1,n2,n3,n4⟩:=t.nA
 obtain ⟨dx,gs,h1,h2⟩:=t.ex
 obtain ⟨us,l1,l2⟩:=t.he
 exact ⟨⟨dx,gs,by rw [aM n4];exact h1,h2⟩,by rw [aM t.ap.cl];exact t.hc,by rw [aM t.ap.kl];exact t.hk,⟨us,by rw [aM t.ap.el];exact l1,l2⟩,⟨vs,aK,h⟩,jD t.fh (t.nf _ (.inr (.inr (.inr (.inr rfl))))) _,t.nf,t.ap⟩
theorem TS.field (t:TS K C F H A w a) {dx:Addr} {gs:List (Str×V)} (h:H A=some (.ins C dx gs)) {f:Str} {v u:V} (hf:gs.lookup f=some u) {w':Own} {a':aD}
  (hn:(cX f v gs).lookup ("n" : Str)=some (.int a'.now.n)) (h1:(cX f v gs).lookup ("cells" : Str)=some (.ref w'.c)) (h2:(cX f v gs).lookup ("clues" : Str)=some (.ref w'.k)) (h3:(cX f v gs).lookup ("earlier" : Str)=some (.ref w'.e)) (h4:(cX f v gs).lookup ("later" : Str)=some (.ref w'.l))
  (hc:H w'.c=some (.lst (vL a'.now.town))) (hk:H w'.k=some (.lst (vL a'.now.clues.flatten))) (he:∃vs,H w'.e=some (.lst vs)∧cG K F (a'.undo.reverse.map mD) vs) (hl:∃vs,H w'.l=some (.lst vs)∧cG K F (a'.redo.reverse.map mD) vs)
  (nf:∀b,w'.has A b→F b=none) (ap:w'.Ap):TS K C F (upd H A (.ins C dx (cX f v gs))) A w' a':=by
 obtain ⟨Mm,Mn,g1,_,_,_,_,_,g7⟩:=t.ex
 rw [h] at g1
 cases g1
 obtain ⟨vs,e1,e2⟩:=he
 obtain ⟨us,l1,l2⟩:=hl
 exact ⟨⟨dx,_,aK,hn,h1,h2,h3,h4,by rw [yR hf];exact g7⟩,by rw [aM (nQ hc h fun z=>nomatch z)];exact hc,by rw [aM (nQ hk h fun z=>nomatch z)];exact hk,
  ⟨vs,by rw [aM (nQ e1 h fun z=>nomatch z)];exact e1,e2⟩,⟨us,by rw [aM (nQ l1 h fun z=>nomatch z)];exact l1,l2⟩,jD t.fh (t.nf _ (.inl rfl)) _,nf,ap⟩
macro "lk" : tactic=>`(tactic| (rw [cb];first|rw [if_pos rfl]|(rw [if_neg (by decide +kernel)];assumption)))
theorem TS.fn (t:TS K C F H A w a) {dx:Addr} {gs:List (Str×V)} (h:H A=some (.ins C dx gs)) (n:Nat):TS K C F (upd H A (.ins C dx (cX "n" (.int n) gs))) A w { a with now:={ a.now with n:=n } }:=by
 obtain ⟨Mm,Mn,g1,g2,g3,g4,g5,g6,g7⟩:=t.ex
 rw [h] at g1
 cases g1
 exact t.field h g2 (by lk) (by lk) (by lk) (by lk) (by lk) t.hc t.hk t.he t.hl t.nf t.ap
theorem TS.so (t:TS K C F H A w a) {dx:Addr} {gs:List (Str×V)} (h:H A=some (.ins C dx gs)) {p:Addr} {l:List Nat} (hp:H p=some (.lst (vL l))) (hf:F p=none) (ap:p≠w.k∧p≠w.e∧p≠w.l):TS K C F (upd H A (.ins C dx (cX "cells" (.ref p) gs))) A { w with c:=p } { a with now:={ a.now with town:=l } }:=by
 obtain ⟨Mm,Mn,g1,g2,g3,g4,g5,g6,g7⟩:=t.ex
 rw [h] at g1
 cases g1
 refine t.field h g3 (by lk) (by lk) (by lk) (by lk) (by lk) hp t.hk t.he t.hl (fun b hb=>?_) ⟨ap.1,ap.2.1,ap.2.2,t.ap.ke,t.ap.kl,t.ap.el⟩
 rcases hb with rfl|rfl|rfl|rfl|rfl
 ·exact t.nf _ (.inl rfl)
 ·exact hf
 ·exact t.nf _ (.inr (.inr (.inl rfl)))
 ·exact t.nf _ (.inr (.inr (.inr (.inl rfl))))
 ·exact t.nf _ (.inr (.inr (.inr (.inr rfl))))
theorem TS.u5 (t:TS K C F H A w a) {dx:Addr} {gs:List (Str×V)} (h:H A=some (.ins C dx gs)) {p:Addr} {c:List (List Nat)} (hp:H p=some (.lst (vL c.flatten))) (hf:F p=none) (ap:p≠w.c∧p≠w.e∧p≠w.l):TS K C F (upd H A (.ins C dx (cX "clues" (.ref p) gs))) A { w with k:=p } { a with now:={ a.now with clues:=c } }:=by
 obtain ⟨Mm,Mn,g1,g2,g3,g4,g5,g6,g7⟩:=t.ex
 rw [h] at g1
 cases g1
 refine t.field h g4 (by lk) (by lk) (by lk) (by lk) (by lk) t.hc hp t.he t.hl (fun b hb=>?_) ⟨ap.1.symm,t.ap.ce,t.ap.cl,ap.2.1,ap.2.2,t.ap.el⟩
 rcases hb with rfl|rfl|rfl|rfl|rfl
 ·exact t.nf _ (.inl rfl)
 ·exact t.nf _ (.inr (.inl rfl))
 ·exact hf
 ·exact t.nf _ (.inr (.inr (.inr (.inl rfl))))
 ·exact t.nf _ (.inr (.inr (.inr (.inr rfl))))
theorem TS.UC (t:TS K C F H A w a) {dx:Addr} {gs:List (Str×V)} (h:H A=some (.ins C dx gs)) {p:Addr} (hp:H p=some (.lst [])) (hf:F p=none) (ap:p≠w.c∧p≠w.k∧p≠w.l):TS K C F (upd H A (.ins C dx (cX "earlier" (.ref p) gs))) A { w with e:=p } { a with undo:=[] }:=by
 obtain ⟨Mm,Mn,g1,g2,g3,g4,g5,g6,g7⟩:=t.ex
 rw [h] at g1
 cases g1
 refine t.field h g5 (by lk) (by lk) (by lk) (by lk) (by lk) t.hc t.hk ⟨_,hp,bU⟩ t.hl (fun b hb=>?_) ⟨t.ap.ck,ap.1.symm,t.ap.cl,ap.2.1.symm,t.ap.kl,ap.2.2⟩
 rcases hb with rfl|rfl|rfl|rfl|rfl
 ·exact t.nf _ (.inl rfl)
 ·exact t.nf _ (.inr (.inl rfl))
 ·exact t.nf _ (.inr (.inr (.inl rfl)))
 ·exact hf
 ·exact t.nf _ (.inr (.inr (.inr (.inr rfl))))
theorem TS.Po (t:TS K C F H A w a) {dx:Addr} {gs:List (Str×V)} (h:H A=some (.ins C dx gs)) {p:Addr} (hp:H p=some (.lst [])) (hf:F p=none) (ap:p≠w.c∧p≠w.k∧p≠w.e):TS K C F (upd H A (.ins C dx (cX "later" (.ref p) gs))) A { w with l:=p } { a with redo:=[] }:=by
 obtain ⟨Mm,Mn,g1,g2,g3,g4,g5,g6,g7⟩:=t.ex
 rw [h] at g1
 cases g1
 refine t.field h g6 (by lk) (by lk) (by lk) (by lk) (by lk) t.hc t.hk t.he ⟨_,hp,bU⟩ (fun b hb=>?_) ⟨t.ap.ck,t.ap.ce,ap.1.symm,t.ap.ke,ap.2.1.symm,ap.2.2.symm⟩
 rcases hb with rfl|rfl|rfl|rfl|rfl
 ·exact t.nf _ (.inl rfl)
 ·exact t.nf _ (.inr (.inl rfl))
 ·exact t.nf _ (.inr (.inr (.inl rfl)))
 ·exact t.nf _ (.inr (.inr (.inr (.inl rfl))))
 ·exact hf
theorem cP.GW {g:ae} (ok:cP g):g.town.length≤16∧g.clues.flatten.length=4*g.n∧g.n≤4:=by
 have hn:=ok.hi
 have hnn:g.n*g.n≤4*4:=kG hn hn
 exact ⟨by rw [ok.town];omega,by rw [iQ ok.row,ok.four],hn⟩
theorem TS.Om (t:TS K C F H A w a) (c:oN K C) (ok:cP a.now) {G:Hp} (hA:G A=H A) (hc:G w.c=H w.c) (hk:G w.k=H w.k):Den K G (tD a.now) (.ref A):=by
 obtain ⟨dx,gs,h1,h2,h3,h4,_⟩:=t.ex
 obtain ⟨e1,e2,e3⟩:=ok.GW
 exact yQ (hA.trans h1) c.cl (gE c.n h2 (gE c.cells h3 (gE c.clues h4 tO)))
  (bB (bO _) (bB (nJ (hc.trans t.hc) (by omega)) (bB (nJ (hk.trans t.hk) (by omega)) bU)))
theorem TS.den (t:TS K C F H A w a) (c:oN K C) (ok:cP a.now):Den K H (tD a.now) (.ref A):=t.Om c ok rfl rfl rfl
theorem xq {G:Hp}:∀vs:List V,cG K G (aG vs.length .any) vs
 | []=>bU
 | v::vs=>bB (by unfold Den;trivial) (xq vs)
theorem TS.XF (t:TS K C F H A w a) (c:oN K C) (ok:cP a.now) (hu:a.undo.length≤100) (hr:a.redo.length≤100) {G:Hp} (hG:∀b,w.has A b→G b=H b):Den K G (xo (a.now,a.undo.length,a.redo.length)) (.ref A):=by
 obtain ⟨dx,gs,h1,h2,h3,h4,h5,h6,_⟩:=t.ex
 obtain ⟨e1,e2,e3⟩:=ok.GW
 obtain ⟨vs,f1,f2⟩:=t.he
 obtain ⟨us,l1,l2⟩:=t.hl
 have z1:a.undo.length=vs.length:=by have:=bM f2;rw [af,a7] at this;exact this
 have z2:a.redo.length=us.length:=by have:=bM l2;rw [af,a7] at this;exact this
 have hz:(1000:Nat)≤sizeLine:=by decide
 have d1:cG K G (aG a.undo.length .any) vs:=by rw [z1];exact xq vs
 have d2:cG K G (aG a.redo.length .any) us:=by rw [z2];exact xq us
 exact yQ ((hG _ (.inl rfl)).trans h1) c.cl (gE c.n h2 (gE c.cells h3 (gE c.clues h4 (gE c.km h5 (gE c.later h6 tO)))))
  (bB (bO _) (bB (nJ (l:=a.now.town) ((hG _ (.inr (.inl rfl))).trans t.hc) (by omega)) (bB (nJ (l:=a.now.clues.flatten) ((hG _ (.inr (.inr (.inl rfl)))).trans t.hk) (by omega)) (bB (f9 (by rw [c9];show a.undo.length≤_;omega) ((hG _ (.inr (.inr (.inr (.inl rfl))))).trans f1) d1) (bB (f9 (by rw [c9];show a.redo.length≤_;omega) ((hG _ (.inr (.inr (.inr (.inr rfl))))).trans l1) d2) bU)))))
end
end Tn
namespace Mi
open PySem PySem.Spec PyProof.Rows L2
theorem sE' {k:Nat} {X:Cx} {x:Expr} {N:List Str} {sc:Scope} (e:E) (G:Good X k) (hN:X.N=N) (hs:X.env.scope=sc) (ok:dI (Cx.cc X k) e) (h:bK N sc e x=true):PE X x (tM X.K (bF e)):=by
 subst hN hs
 exact sE e G ok h
theorem sT' {k:Nat} {X:Cx} {x:Expr} {N:List Str} {sc:Scope} (e:E) (G:Good X k) (hN:X.N=N) (hs:X.env.scope=sc) (ok:dI (Cx.cc X k) e) (h:(je e&&bK N sc e x)=true):PT X x (sR X.K fun ρ=>(bF e ρ).bind fB):=by
 subst hN hs
 rw [ag] at h
 exact sT e G ok h.2 h.1
theorem sF' {k:Nat} {X:Cx} {x:Expr} {N:List Str} {sc:Scope} (l:Es) (G:Good X k) (hN:X.N=N) (hs:X.env.scope=sc) (ok:cU (Cx.cc X k) l) (h:bK N sc (.lst l) x=true):PE X x (J8 X.K (jO l)):=by
 subst hN hs
 unfold bK at h
 have hi:=l6 h
 clear h
 obtain ⟨xs,p,rfl,h⟩:=hi
 simp only [ag,decide_eq_true_eq] at h
 have hz:(1000:Nat)≤sizeLine:=by decide
 exact O5 (pos:=p) (R4 l G ok h.2) fun ρ ds e=>by rw [p6 e];omega
theorem XG {k:Nat} {X:Cx} {st:Stmt} {N:List Str} {sc:Scope} (a:S) (G:Good X k) (hf:∀x,X.fn x=true) (hp:PassesOwn (model X.prog X.w) X.A X.env X.xe) (hN:X.N=N) (hs:X.env.scope=sc) (ok:ib (Cx.cc X k) a) (h:s_ N sc a st=true):PS X st (w9 X.K (uc a)):=by
 subst hN hs
 exact sS a G hf hp ok h
theorem XH {k:Nat} {X:Cx} {st:List Stmt} {N:List Str} {sc:Scope} (a:Ss) (G:Good X k) (hf:∀x,X.fn x=true) (hp:PassesOwn (model X.prog X.w) X.A X.env X.xe) (hN:X.N=N) (hs:X.env.scope=sc) (ok:dj (Cx.cc X k) a) (h:bV N sc a st=true):vO X st (w9 X.K (cg a)):=by
 subst hN hs
 exact R5 a G hf hp ok h
structure qQ (c:Cc) (x:Str) (ps:List Str) (sp:Sp):Prop where
 ex:∃(f:Addr) (fd:FuncData),eI c.P c.w c.K c.mg c.base ia c.k f fd ps sp∧c.mg x=some (.ref f)∧dt c.K (.ref f)=true∧Binds c.K fd ps []
theorem hc {X:Cx} {k:Nat} {x:Str} {ps:List Str} {sp:Sp} {p pos:Pos} {e:Expr} {es:List Expr} {t:TA} {sc:Scope} (F:qQ (Cx.cc X k) x ps sp) (G:Good X k) (hs:X.env.scope=sc) (hg:pD sc x=true) (ha:PA X (e::es) t) (hp:(e::es).all plain=true) (F7:(x == ("__debug__" : Str))=false):PE X (.Call (.Name x p) (e::es) [] pos) (Hq sp [] E0 t):=by
 subst hs
 obtain ⟨f,fd,F,hm,hk,hb⟩:=F.ex
 rw [dk,ag] at hp
 exact Hr F G.room (fX hg) hm hk hb .nil K0 ha F7 (cY hp.1) (mG hp.2)
theorem Ext.add {F H H':Hp} {p:Addr} {o:HO} (f:bT F H) (s:bT H H') (np:H p=none) (hp:H' p=some o):Ext F H (upd F p o) H' :=
 ⟨s,d8 (same_none f np) o,fun b u e=>by
  by_cases hb:b=p
  ·subst hb;rw [aK] at e;rw [hp];exact e
  ·rw [aM hb] at e;exact s _ _ (f _ _ e),fun b h1 h2=>by
  by_cases hb:b=p
  ·subst hb;exact absurd np h2
  ·rw [aM hb];exact h1⟩
end Mi
namespace Tn
open PySem PySem.Spec PyProof.Rows L2 Mi
def top (i:Nat):Stmt:=PySem.Challenge.pw_townclues_s01_answers.main.body.getD i (.Pass ⟨0,0,0,0⟩)
def aV (a:aT):List V:=.int a.ret::vL a.out
theorem CS {K:aa} {G:Hp} (a:aT):cG K G (.int a.ret::a.out.map iN) (aV a):=bB (bO _) (mn _)
theorem Mo {K:aa} {G:Hp} {a:aT} {vs:List V} (h:cG K G (.int a.ret::a.out.map iN) vs):vs=aV a:=by
 obtain ⟨v,r,rfl,h1,h2⟩:=bJ h
 rw [bD h1,qo h2];rfl
abbrev Mp:=ae→List Nat→ae×aT
def DD (K:aa) (C:Addr) (m:Nat) (f:Mp):Sp:=fun vs H Q _=>∃(A:Addr) (F:Hp) (w:Own) (a:aD) (xs:List Nat),vs=.ref A::vL xs∧xs.length=m∧TS K C F H A w a∧cP a.now ∧
 ∀v F' H' w',TS K C F' H' A w' { a with now:=(f a.now xs).1 }→jZ A F H w F' H' w'→Den K F' (dq (f a.now xs).2) v→Q v H'
theorem gF {K:aa} {C A:Addr} {F H F1 H1 H2:Hp} {w1:Own} {a1:aD} {p:Addr} {vs:List V} {r:aT} {ds:List D} {Q:VK} {O:Addr→Prop} (t:TS K C F1 H1 A w1 a1) (st:iR A F H O F1 H1 w1) (s:bT H1 H2) (np:H1 p=none) (hp:H2 p=some (.lst vs)) (dl:cG K H2 ds vs) (hd:ds=.int r.ret::r.out.map iN)
  (hz:ds.length≤sizeLine) (q:∀v F' H' w',TS K C F' H' A w' a1→iR A F H O F' H' w'→Den K F' (dq r) v→Q v H'):Q (.ref p) H2:=by
 subst hd
 have e:=Mo dl
 subst e
 have ex:=Ext.add t.fh s np hp
 exact q _ _ H2 w1 (t.ext ex) (st.ext ex) (f9 hz aK (CS r))
structure Wd (K:aa) (mg:Str→Option Value) (C:Addr):Prop where
 T:oN K C
 bl:Vp mg
 iS:kJ K mg "NO_SUCH" (.int (-22))
 kE:kJ K mg "NONE_THERE" (.int (-2))
 kn:kJ K mg "TOWER_STANDS" (.int (-17))
 oa:kJ K mg "NO_TOWER" (.int (-12))
 oO:kJ K mg "NOT_BEGUN" (.int (-61))
 tP:kJ K mg "NO_TOWN" (.int (-71))
 lA:kJ K mg "NO_WAY" (.int (-33))
 qR:kJ K mg "UNSURE" (.int (-6))
 ko:kJ K mg "HIGHEST_SIZE" (.int 4)
 oP:kJ K mg "ABOVE" (.int 0)
 u6:kJ K mg "RIGHT" (.int 1)
 u7:kJ K mg "BELOW" (.int 2)
 tQ:kJ K mg "LEFT" (.int 3)
 qp:kJ K mg "SIDES" (.int 4)
 kq:kJ K mg "MOST_CHANGES" (.int 20)
 j0:kJ K mg "LINE_END" (.int 10)
 u9:kJ K mg "BLANK" (.int 32)
 JS:kJ K mg "DOT" (.int 46)
 ja:kJ K mg "DIGIT_ZERO" (.int 48)
 qr:kJ K mg "NO_SIGN" (.int (-1))
 CU:kJ K mg "START" (.int 0)
 CV:kJ K mg "BUILD" (.int 1)
 IA:kJ K mg "TEAR" (.int 2)
 IB:kJ K mg "TELL" (.int 3)
 UD:kJ K mg "AT" (.int 4)
 E7:kJ K mg "SEEN" (.int 5)
 E8:kJ K mg "CLUE" (.int 6)
 yS:kJ K mg "CLASH" (.int 7)
 E9:kJ K mg "DONE" (.int 8)
 yT:kJ K mg "COUNT" (.int 9)
 Mq:kJ K mg "NTH" (.int 10)
 E_:kJ K mg "SURE" (.int 11)
 yU:kJ K mg "COULD" (.int 12)
 yV:kJ K mg "KNOWN" (.int 13)
 Fb:kJ K mg "LINE" (.int 14)
 Fc:kJ K mg "HINT" (.int 15)
 CW:kJ K mg "SOLVE" (.int 16)
 IC:kJ K mg "FILL" (.int 17)
 CY:kJ K mg "SPARE" (.int 18)
 yW:kJ K mg "VIEWS" (.int 19)
 CZ:kJ K mg "CLEAR" (.int 20)
 Oo:kJ K mg "ASK" (.int 21)
 ID:kJ K mg "TURN" (.int 22)
 xr:kJ K mg "MIRROR" (.int 23)
 Fd:kJ K mg "TEXT" (.int 24)
 IE:kJ K mg "BACK" (.int 25)
 C0:kJ K mg "AGAIN" (.int 26)
 YC:kJ K mg "NUMBERS_BEHIND" (.tup (arity.map iN))
structure Ps (c:Cc):Prop where
 qS:fH c "is_cell" gJ
 qT:fH c "is_line" ig
 lX:fH c "line_clue" cf
 h8:fH c "line_towers" cz
 C1:fH c "line_towers" gb
 j3:fH c "count_seen" di
 gv:fH c "count_towers" fj
 lY:fH c "town_ways" dE
 jb:fH c "answer_hint" (zP .hint)
 j4:fH c "text_lines" jv
 oe:fH c "has_form" mf
 j5:fH c "read_cells" jx
 j6:fH c "read_clues" jy
 jc:fH c "towers_from" gL
 j7:fH c "side_clues" jB
 j8:fH c "only_wrong" jC
 og:fH c "signs_of" hZ
 oh:fH c "row_line" mi
 j9:fH c "edge_line" i_
set_option hygiene false in
macro "okt" : tactic=>`(tactic| (simp only [dI,cU,iH,iC,ib,dj,and_true,true_and,and_self]<;>(repeat' apply And.intro)<;>first|assumption|exact W.iS|exact W.kE|exact W.kn|exact W.oa|exact W.oO|exact W.tP|exact W.lA|exact W.qR|exact W.ko|exact W.oP|exact W.u6|exact W.u7|exact W.tQ|exact W.qp|exact W.kq|exact W.j0|exact W.u9|exact W.JS|exact W.ja|exact W.qr|exact W.CU|exact W.CV|exact W.IA|exact W.IB|exact W.UD|exact W.E7|exact W.E8|exact W.yS|exact W.E9|exact W.yT|exact W.Mq|exact W.E_|exact W.yU|exact W.yV|exact W.Fb|exact W.Fc|exact W.CW|exact W.IC|exact W.CY|exact W.yW|exact W.CZ|exact W.Oo|exact W.ID|exact W.xr|exact W.Fd|exact W.IE|exact W.C0|exact W.YC|exact p.qS|exact p.qT|exact p.lX|exact p.h8|exact p.C1|exact p.j3|exact p.gv|exact p.lY|exact p.jb|exact p.j4|exact p.oe|exact p.j5|exact p.j6|exact p.jc|exact p.j7|exact p.j8|exact p.og|exact p.oh|exact p.j9))
set_option hygiene false in
macro "mT" e:term:max:term=>`(sT' (N:=nN) (sc:=ai sS) $e G rfl rfl (by okt) (by decide +kernel))
set_option hygiene false in
macro "mE" e:term:max:term=>`(sE' (N:=nN) (sc:=ai sS) $e G rfl rfl (by okt) (by decide +kernel))
set_option hygiene false in
macro "mF" e:term:max:term=>`(sF' (N:=nN) (sc:=ai sS) $e G rfl rfl (by okt) (by decide +kernel))
set_option hygiene false in
macro "mC" h:term:max a:term:max:term=>`(hc (sc:=ai sS) (k:=k) $h G rfl (by decide +kernel) $a rfl rfl)
abbrev x1 (a:E):Es:=.cons a .nil
abbrev x2 (a b:E):Es:=.cons a (.cons b .nil)
abbrev x3 (a b c:E):Es:=.cons a (.cons b (.cons c .nil))
abbrev Vz:E:=.gl "NO_SUCH" (.int (-22))
abbrev VA:E:=.gl "NONE_THERE" (.int (-2))
theorem qU:∀{l:List Nat} {c h:Nat},c < l.length→l.getD c 0=0→h≠0→aB (l.set c h)=aB l+1
 | [],c,h,hc,_,_=>by simp at hc
 | a::l,0,h,_,h0,hh=>by
  have:a=0:=h0
  subst this
  unfold aB
  rw [Nc,c5,c5]
  have e:(h != 0)=true:=by rw [bne_iff_ne];exact hh
  rw [e];rfl
 | a::l,c+1,h,hc,h0,hh=>by
  have ih:=qU (l:=l) (c:=c) (h:=h) (by simpa using hc) h0 hh
  unfold aB at ih ⊢
  rw [Nd,c5,c5]
  cases (a != 0) with
  | true=>simp [ih]
  | false=>simp [ih]
theorem C2 (l:List Nat) (i h:Nat):(vL l).set i (.int h)=vL (l.set i h):=by unfold vL;rw [List.map_set]
theorem eu (l:List Nat):(vL l).length=l.length:=af _
section
variable {P:Program} {w:World} {K:aa} {mg:Str→Option Value} {base:Heap} {C:Addr} {k:Nat} {f:Addr} {fd:FuncData}
theorem Fe {l:List Nat} {c:Nat} (h:c < l.length):MV (vL l).length (c:Int)=some c:=by
 unfold MV
 rw [eu,if_pos (by omega),if_pos (by omega)];rfl
namespace Dbuild
def nN:List Str:=["town","cell","height"]
abbrev sS:Stmt:=top 48
theorem sc:aR nN nN (ai sS):=⟨rfl,rfl,rfl,by decide +kernel,rfl,by decide +kernel,by decide +kernel⟩
def iq:Mp:=fun g xs=>let c:=xs.getD 0 0;let h:=xs.getD 1 0
 if g.n*g.n≤c∨h < 1∨g.n < h then (g,aw (-22)) else if az g.town c≠0 then (g,aw (-17)) else ({ g with town:=g.town.set c h },aw (aB g.town+1:Nat))
theorem ok (F:pG K "answer_build" "answer_build" sS f fd) (W:Wd K mg C) (p:Ps ⟨P,w,K,mg,base,k⟩):eI P w K mg base ia (k+1) f fd nN (DD K C 2 iq):=by
 refine F.ok sc (fun vs H Q E h=>?_) (fun eU A0 outer s H vs Q E hr h=>?_)
 ·obtain ⟨_,_,_,_,xs,rfl,pF,_⟩:=h
  show (vL xs).length+1=_
  rw [eu,pF];rfl
 ·obtain ⟨A,F0,ow,a,xs,rfl,pF,t,ok,q⟩:=h
  obtain ⟨c,h,rfl⟩:=Rk pF
  have G:Good (gY ia P w K mg base nN "answer_build" (ai sS) f eU A0 outer s H E).qC k:=⟨hr,rfl,sc.nd,W.bl⟩
  refine ⟨_,aE (fw (mT (.or (x3 (.not (.call "is_cell" gJ (x2 (.var 0) (.var 1)))) (.op .lt (.var 2) (.int 1)) (.op .gt (.var 2) (.fld (.var 0) "n"))))) (br (b5 (mF (x1 Vz)))) c_)
   (aE (fw (mT (.op .gt (.ix (.fld (.var 0) "cells") (.var 1)) (.int 0))) (br (b5 (mF (x1 (.gl "TOWER_STANDS" (.int (-17))))))) c_)
   (aE (B2 (pv 2) (B1 (jL (pv 0) rfl) (pv 1) set_list))
   (br (b5 (mF (x1 (.call "count_towers" fj (x1 (.var 0))))))))),?_⟩
  have town:=ok.town
  have hz:(1:Nat)≤sizeLine:=by decide
  have sl:∀{H1:Hp} {a1:aD},TS K C F0 H1 A ow a1→cP a1.now→Slots K H1 (L2.start nN [.ref A,.int c,.int h]) [some (tD a1.now),some (iN c),some (iN h)]:=fun t1 o1=>aA (t1.den W.T o1) (aA (bO _) (aA (bO _) aI))
  refine gj (sl t ok) (Ph (vB (aL §2 (r_ ok))) (fun _=>bu (ah rfl) bb (Ep (b:=1))) (fun _ _=>bu (ah rfl) (cv (ah rfl) (gm a.now)) i9)) fun H1 s1=>?_
  have t1:=t.same s1
  have nO:jZ A F0 H ow F0 H1 ow:=jZ.refl.same s1
  by_cases hb:a.now.n*a.now.n≤c∨h < 1∨a.now.n < h
  ·have eb:((!decide (c < a.now.n*a.now.n))||(decide (h < 1)||decide (a.now.n < h)))=true:=by simp only [cZ,eX,decide_eq_true_eq,decide_eq_false_iff_not];omega
   rw [eb,if_pos rfl]
   have ee:iq a.now [c,h]=(a.now,aw (-22)):=if_pos hb
   rw [ee] at q
   exact jg (sl t1 ok) (ao bW aJ) fun p vs H2 s2 np hp _ dl=>gF t1 nO s2 np hp dl rfl hz q
  ·have eb:((!decide (c < a.now.n*a.now.n))||(decide (h < 1)||decide (a.now.n < h)))=false:=by
    rw [o8];simp only [ne_eq,cZ,eX,decide_eq_true_eq,decide_eq_false_iff_not];omega
   rw [eb,if_neg (by decide)]
   have hc:c < a.now.town.length:=by omega
   refine gj (sl t1 ok) (bu (fE (cv (ah rfl) (eF a.now)) (ah rfl) (jo hc)) bb (i9 (b:=0))) fun H2 s2=>?_
   have t2:=t1.same s2
   have q_:=nO.same s2
   by_cases h0:az a.now.town c≠0
   ·have XI:decide (0 < a.now.town.getD c 0)=true:=decide_eq_true (Nat.pos_of_ne_zero h0)
    rw [XI,if_pos rfl]
    have ee:iq a.now [c,h]=(a.now,aw (-17)):=(if_neg hb).trans (if_pos h0)
    rw [ee] at q
    exact jg (sl t2 ok) (ao bW aJ) fun p vs H3 s3 np hp _ dl=>gF t2 q_ s3 np hp dl rfl hz q
   ·have h00:a.now.town.getD c 0=0:=by unfold az at h0;omega
    rw [decide_eq_false (show ¬0 < a.now.town.getD c 0 by omega),if_neg (by decide)]
    obtain ⟨dx,gs,x1,x2,x3,x4⟩:=t2.ex
    refine ⟨_,rfl,_,rfl,A,C,dx,gs,.ref ow.c,rfl,x1,W.T.cl,W.T.cells,x3,_,rfl,ow.c,_,_,c,rfl,rfl,t2.hc,Fe hc,?_⟩
    rw [C2]
    have t3:=t2.cells (a.now.town.set c h)
    have oj:=q_.put (.inr (.inl rfl)) (.lst (vL (a.now.town.set c h)))
    have ee:iq a.now [c,h]=({ a.now with town:=a.now.town.set c h },aw (aB a.now.town+1:Nat)):=(if_neg hb).trans (if_neg h0)
    rw [ee,←qU hc h00 (show h≠0 by omega)] at q
    exact jg (sl t3 (xp ok (by omega))) (ao (aL §1 kK) aJ) fun p vs H4 s4 np hp _ dl=>gF t3 oj s4 np hp dl rfl hz q
end Dbuild
end
end Tn
namespace Tn
open PySem PySem.Spec PyProof.Rows L2 Mi
theorem TS.new {K:aa} {C A:Addr} {F H:Hp} {w:Own} {a:aD} (t:TS K C F H A w a) {p:Addr} (hp:H p=none):F p=none∧p≠w.c∧p≠w.k∧p≠w.e∧p≠w.l :=
 ⟨same_none t.fh hp,fun e=>t.has (.inr (.inl rfl)) (e▸hp),fun e=>t.has (.inr (.inr (.inl rfl))) (e▸hp),fun e=>t.has (.inr (.inr (.inr (.inl rfl)))) (e▸hp),fun e=>t.has (.inr (.inr (.inr (.inr rfl)))) (e▸hp)⟩
section
variable {P:Program} {w:World} {K:aa} {mg:Str→Option Value} {base:Heap} {C:Addr} {k:Nat} {f:Addr} {fd:FuncData}
namespace Dtear
def nN:List Str:=["town","cell","height"]
def pP:List Str:=["town","cell"]
abbrev sS:Stmt:=top 49
theorem sc:aR nN pP (ai sS):=⟨rfl,rfl,rfl,by decide +kernel,rfl,by decide +kernel,by decide +kernel⟩
def iq:Mp:=fun g xs=>let c:=xs.getD 0 0
 if g.n*g.n≤c then (g,aw (-22)) else if az g.town c=0 then (g,aw (-2)) else ({ g with town:=g.town.set c 0 },aw (az g.town c:Nat))
theorem ok (F:pG K "answer_tear" "answer_tear" sS f fd) (W:Wd K mg C) (p:Ps ⟨P,w,K,mg,base,k⟩):eI P w K mg base ia (k+1) f fd pP (DD K C 1 iq):=by
 refine F.ok sc (fun vs H Q E h=>?_) (fun eU A0 outer s H vs Q E hr h=>?_)
 ·obtain ⟨_,_,_,_,xs,rfl,pF,_⟩:=h
  show (vL xs).length+1=_
  rw [eu,pF];rfl
 ·obtain ⟨A,F0,ow,a,xs,rfl,pF,t,ok,q⟩:=h
  obtain ⟨c,rfl⟩:=Md pF
  have G:Good (gY ia P w K mg base nN "answer_tear" (ai sS) f eU A0 outer s H E).qC k:=⟨hr,rfl,sc.nd,W.bl⟩
  refine ⟨_,aE (fw (mT (.not (.call "is_cell" gJ (x2 (.var 0) (.var 1))))) (br (b5 (mF (x1 Vz)))) c_)
   (aE (dh (i:=2) sc.nd rfl (Or.inl rfl) (mE (.ix (.fld (.var 0) "cells") (.var 1))))
   (aE (fw (mT (.op .eq (.var 2) (.int 0))) (br (b5 (mF (x1 VA)))) c_)
   (aE (B2 rR (B1 (jL (pv 0) rfl) (pv 1) set_list))
   (br (b5 (mF (x1 (.var 2)))))))),?_⟩
  have town:=ok.town
  have hz:(1:Nat)≤sizeLine:=by decide
  refine gj (ρ:=[some (tD a.now),some (iN c),none]) (aA (t.den W.T ok) (aA (bO _) (ak aI))) (vB (aL §2 (r_ ok))) fun H1 s1=>?_
  have t1:=t.same s1
  have nO:jZ A F0 H ow F0 H1 ow:=jZ.refl.same s1
  by_cases hb:a.now.n*a.now.n≤c
  ·rw [decide_eq_false (show ¬c < a.now.n*a.now.n by omega),Bool.not_false,if_pos rfl]
   have ee:iq a.now [c]=(a.now,aw (-22)):=if_pos hb
   rw [ee] at q
   exact jg (ρ:=[none,none,none]) (ak (ak (ak aI))) (ao bW aJ) fun p vs H2 s2 np hp _ dl=>gF t1 nO s2 np hp dl rfl hz q
  ·rw [decide_eq_true (show c < a.now.n*a.now.n by omega),Bool.not_true,if_neg (by decide)]
   have hc:c < a.now.town.length:=by omega
   refine gD (ρ:=[some (tD a.now),some (iN c),none]) (aA (t1.den W.T ok) (aA (bO _) (ak aI))) (fE (cv (ah rfl) (eF a.now)) (ah rfl) (jo hc)) fun v H2 s2 dv=>?_
   obtain rfl:=bD dv
   have t2:=t1.same s2
   have q_:=nO.same s2
   have sl:∀{H3:Hp},Slots K H3 [some (.ref A),some (.int c),some (.int (a.now.town.getD c 0:Nat))] [none,some (iN c),some (iN (a.now.town.getD c 0))]:=ak (aA (bO _) (aA (bO _) aI))
   refine gj sl (bu (ah rfl) bb (fA (b:=0))) fun H3 s3=>?_
   have t3:=t2.same s3
   have oj:=q_.same s3
   by_cases h0:az a.now.town c=0
   ·rw [decide_eq_true (show a.now.town.getD c 0=0 from h0),if_pos rfl]
    have ee:iq a.now [c]=(a.now,aw (-2)):=(if_neg hb).trans (if_pos h0)
    rw [ee] at q
    exact jg sl (ao bW aJ) fun p vs H4 s4 np hp _ dl=>gF t3 oj s4 np hp dl rfl hz q
   ·rw [decide_eq_false (show ¬a.now.town.getD c 0=0 from h0),if_neg (by decide)]
    obtain ⟨dx,gs,x1,x2,x3,x4⟩:=t3.ex
    refine ⟨_,rfl,A,C,dx,gs,.ref ow.c,rfl,x1,W.T.cl,W.T.cells,x3,_,rfl,ow.c,_,_,c,rfl,rfl,t3.hc,Fe hc,?_⟩
    have e0:(vL a.now.town).set c (.int 0)=vL (a.now.town.set c 0):=C2 _ _ 0
    rw [e0]
    have t4:=t3.cells (a.now.town.set c 0)
    have vo:=oj.put (.inr (.inl rfl)) (.lst (vL (a.now.town.set c 0)))
    have ee:iq a.now [c]=({ a.now with town:=a.now.town.set c 0 },aw (az a.now.town c:Nat)):=(if_neg hb).trans (if_neg h0)
    rw [ee] at q
    exact jg sl (ao (ah rfl) aJ) fun p vs H4 s4 np hp _ dl=>gF t4 vo s4 np hp dl rfl hz q
end Dtear
namespace Dtell
def nN:List Str:=["town","side","i","clue","before"]
def pP:List Str:=["town","side","i","clue"]
abbrev sS:Stmt:=top 50
theorem sc:aR nN pP (ai sS):=⟨rfl,rfl,rfl,by decide +kernel,rfl,by decide +kernel,by decide +kernel⟩
def iq:Mp:=fun g xs=>let c:=xs.getD 0 0;let i:=xs.getD 1 0;let v:=xs.getD 2 0
 if 3 < c∨g.n≤i∨g.n < v then (g,aw (-22)) else ({ g with clues:=gf g.clues c i v },aw (a6 g.clues c i:Nat))
theorem ok (F:pG K "answer_tell" "answer_tell" sS f fd) (W:Wd K mg C) (p:Ps ⟨P,w,K,mg,base,k⟩):eI P w K mg base ia (k+1) f fd pP (DD K C 3 iq):=by
 refine F.ok sc (fun vs H Q E h=>?_) (fun eU A0 outer s H vs Q E hr h=>?_)
 ·obtain ⟨_,_,_,_,xs,rfl,pF,_⟩:=h
  show (vL xs).length+1=_
  rw [eu,pF];rfl
 ·obtain ⟨A,F0,ow,a,xs,rfl,pF,t,ok,q⟩:=h
  obtain ⟨c,i,v,rfl⟩:=Vy pF
  have G:Good (gY ia P w K mg base nN "answer_tell" (ai sS) f eU A0 outer s H E).qC k:=⟨hr,rfl,sc.nd,W.bl⟩
  refine ⟨_,aE (fw (mT (.or (x2 (.not (.call "is_line" ig (x3 (.var 0) (.var 1) (.var 2)))) (.op .gt (.var 3) (.fld (.var 0) "n"))))) (br (b5 (mF (x1 Vz)))) c_)
   (aE (dh (i:=4) sc.nd rfl (Or.inl rfl) (mE (.call "line_clue" cf (x3 (.var 0) (.var 1) (.var 2)))))
   (aE (B2 (pv 3) (B1 (jL (pv 0) rfl) (mE (.op .add (.op .mul (.var 1) (.fld (.var 0) "n")) (.var 2))) set_list))
   (br (b5 (mF (x1 (.var 4))))))),?_⟩
  have hz:(1:Nat)≤sizeLine:=by decide
  have sl:∀{H1:Hp} {o:Option V},TS K C F0 H1 A ow a→Slots K H1 [some (.ref A),some (.int c),some (.int i),some (.int v),o] [some (tD a.now),some (iN c),some (iN i),some (iN v),none]:=fun t1=>aA (t1.den W.T ok) (aA (bO _) (aA (bO _) (aA (bO _) (ak aI))))
  refine gj (sl t) (By (vB (aL §3 (ym ok))) (fun _=>bu (ah rfl) (cv (ah rfl) (gm a.now)) i9)) fun H1 s1=>?_
  have t1:=t.same s1
  have nO:jZ A F0 H ow F0 H1 ow:=jZ.refl.same s1
  by_cases hb:3 < c∨a.now.n≤i∨a.now.n < v
  ·have eb:((!(decide (c < 4)&&decide (i < a.now.n)))||decide (a.now.n < v))=true:=by simp only [cZ,eX,kT,decide_eq_true_eq,decide_eq_false_iff_not];omega
   rw [eb,if_pos rfl]
   have ee:iq a.now [c,i,v]=(a.now,aw (-22)):=if_pos hb
   rw [ee] at q
   exact jg (sl t1) (ao bW aJ) fun p vs H2 s2 np hp _ dl=>gF t1 nO s2 np hp dl rfl hz q
  ·have eb:((!(decide (c < 4)&&decide (i < a.now.n)))||decide (a.now.n < v))=false:=by
    rw [o8];simp only [ne_eq,cZ,eX,kT,decide_eq_true_eq,decide_eq_false_iff_not];omega
   rw [eb,if_neg (by decide)]
   have hc:c < 4:=by omega
   have hi:i < a.now.n:=by omega
   refine gD (sl t1) (aL §3 (dZ ok hc hi)) fun u H2 s2 dv=>?_
   obtain rfl:=bD dv
   have t2:=t1.same s2
   have q_:=nO.same s2
   obtain ⟨dx,gs,x1,x2,x3,x4,x5⟩:=t2.ex
   refine ⟨_,rfl,_,rfl,A,C,dx,gs,.ref ow.k,rfl,x1,W.T.cl,W.T.clues,x4,?_⟩
   refine gD (sl t2) (bu (bu (ah rfl) (cv (ah rfl) (gm a.now)) (p9 (by omega))) (ah rfl) d_) fun u H3 s3 dv=>?_
   obtain rfl:=bD dv
   have t3:=t2.same s3
   have oj:=q_.same s3
   have hx:c*a.now.n+i < a.now.clues.flatten.length:=(iM ok.row (by rw [ok.four];exact hc) hi).1
   refine ⟨ow.k,_,_,_,rfl,rfl,t3.hk,Fe hx,?_⟩
   rw [C2,←L9 ok hc hi]
   have t4:=t3.clues (gf a.now.clues c i v)
   have vo:=oj.put (.inr (.inr (.inl rfl))) (.lst (vL (gf a.now.clues c i v).flatten))
   have ee:iq a.now [c,i,v]=({ a.now with clues:=gf a.now.clues c i v },aw (a6 a.now.clues c i:Nat)):=if_neg hb
   rw [ee] at q
   exact jg (ρ:=[none,none,none,none,some (iN (a6 a.now.clues c i))]) (ak (ak (ak (ak (aA (bO _) aI))))) (ao (ah rfl) aJ) fun p vs H4 s4 np hp _ dl=>gF t4 vo s4 np hp dl rfl hz q
end Dtell
namespace Dclear
def nN:List Str:=["town","stood"]
def pP:List Str:=["town"]
abbrev sS:Stmt:=top 51
theorem sc:aR nN pP (ai sS):=⟨rfl,rfl,rfl,by decide +kernel,rfl,by decide +kernel,by decide +kernel⟩
def iq:Mp:=fun g _=>({ g with town:=g.town.map fun _=>0 },aw (aB g.town))
theorem ok (F:pG K "answer_clear" "answer_clear" sS f fd) (W:Wd K mg C) (p:Ps ⟨P,w,K,mg,base,k⟩):eI P w K mg base ia (k+1) f fd pP (DD K C 0 iq):=by
 refine F.ok sc (fun vs H Q E h=>?_) (fun eU A0 outer s H vs Q E hr h=>?_)
 ·obtain ⟨_,_,_,_,xs,rfl,pF,_⟩:=h
  show (vL xs).length+1=_
  rw [eu,pF];rfl
 ·obtain ⟨A,F0,ow,a,xs,rfl,pF,t,ok,q⟩:=h
  obtain rfl:=GV pF
  have G:Good (gY ia P w K mg base nN "answer_clear" (ai sS) f eU A0 outer s H E).qC k:=⟨hr,rfl,sc.nd,W.bl⟩
  refine ⟨_,aE (dh (i:=1) sc.nd rfl (Or.inl rfl) (mE (.call "count_towers" fj (x1 (.var 0)))))
   (aE (eH (pv 0) (xI Ga (mE (.lst (x1 (.int 0)))) (mE (.un .len (.fld (.var 0) "cells")))) rfl)
   (br (b5 (mF (x1 (.var 1)))))),?_⟩
  obtain ⟨hl,_,_⟩:=ok.GW
  have hz:(1000:Nat)≤sizeLine:=by decide
  have sl:∀{H1:Hp} {o:Option V},TS K C F0 H1 A ow a→Slots K H1 [some (.ref A),o] [some (tD a.now),none]:=fun t1=>aA (t1.den W.T ok) (ak aI)
  refine gD (sl t) (aL §1 kK) fun u H1 s1 dv=>?_
  obtain rfl:=bD dv
  have t1:=t.same s1
  have nO:jZ A F0 H ow F0 H1 ow:=jZ.refl.same s1
  refine gD (sl t1) (cE (ao bb aJ)) fun u H2 s2 dv=>?_
  obtain ⟨z,rfl,Vs⟩:=h7 (l:=[0]) dv
  have t2:=t1.same s2
  refine gD (sl t2) (fC (cv (ah rfl) (eF a.now)) gP) fun u H3 s3 dv=>?_
  obtain rfl:=bD dv
  have t3:=t2.same s3
  have oj:=(nO.same s2).same s3
  refine ⟨z,_,_,rfl,rfl,s3 _ _ Vs,by omega,by omega,by rw [eu];show 1*_≤_;omega,fun p hp=>?_⟩
  have e0:(aG (a.now.town.length:Int).toNat (vL [0])).flatten=vL (a.now.town.map fun _=>0):=by
   rw [iD]
   show (aG a.now.town.length [V.int 0]).flatten=_
   rw [tI]
   unfold vL
   rw [a8,←List.map_const']
   rfl
  rw [e0]
  have sp:=d8 hp (.lst (vL (a.now.town.map fun _=>0)))
  have t4:=t3.same sp
  have vo:=oj.same sp
  obtain ⟨n1,n2,n3,n4,n5⟩:=t3.new hp
  obtain ⟨dx,gs,y1,y2,y3,y4,y5,y6,y7⟩:=t4.ex
  refine ⟨_,rfl,A,C,dx,gs,rfl,y1,W.T.cl,W.T.cells,by omega,?_⟩
  have t5:=t4.so y1 (p:=p) (l:=a.now.town.map fun _=>0) aK n1 ⟨n3,n4,n5⟩
  have uh:=vo.fc (.inr (oj.zQ _ hp)) (.ins C dx (cX "cells" (.ref p) gs))
  exact jg (ρ:=[none,some (iN (aB a.now.town))]) (ak (aA (bO _) aI)) (ao (ah rfl) aJ) fun p vs H4 s4 np hp _ dl=>gF t5 uh s4 np hp dl rfl (by show 1≤_;omega) q
end Dclear
end
end Tn
namespace Tn
open PySem PySem.Spec PyProof.Rows L2 Mi
noncomputable def lim (H:Hp) (A:Addr) (w:Own):Hp:=fun b=>open Classical in if b=A∨b=w.c∨b=w.k then H b else none
section
variable {K:aa} {C A:Addr} {F H:Hp} {w:Own} {a:aD}
theorem qs:bT (lim H A w) H:=fun b o e=>by
 unfold lim at e
 split at e
 ·exact e
 ·cases e
theorem Mr {b:Addr} {o:HO} (h:lim H A w b=some o):b=A∨b=w.c∨b=w.k:=by
 unfold lim at h
 split at h
 ·assumption
 ·cases h
theorem TS.Oq (t:TS K C F H A w a) (c:oN K C) (ok:cP a.now):Den K (lim H A w) (tD a.now) (.ref A) :=
 t.Om c ok (if_pos (.inl rfl)) (if_pos (.inr (.inl rfl))) (if_pos (.inr (.inr rfl)))
theorem tR (t:TS K C F H A w a) {F' H':Hp} (e:Ext (lim H A w) H F' H') {p:Addr} {l:List V} (h:F' p=some (.lst l)):H p=none∨p=w.c∨p=w.k:=by
 cases hp:H p with
 | none=>exact .inl rfl
 | some o =>
  cases hl:lim H A w p with
  | none=>rw [e.nw p hl (by rw [hp];exact fun z=>nomatch z)] at h;cases h
  | some o' =>
   rcases Mr hl with q|q|q
   ·subst q
    obtain ⟨dx,gs,h1,_⟩:=t.ex
    have h2:=e.fh _ _ h
    rw [e.hh _ _ h1] at h2
    cases h2
   ·exact .inr (.inl q)
   ·exact .inr (.inr q)
end
theorem Rn {a b:List Nat} (h:vL a=vL b):a=b:=by
 unfold vL at h
 refine map_inj (fun x y e=>?_) h
 have e:V.int x=V.int y:=e
 injection e with e
 omega
theorem Ro (l:List Nat):l.count 0+aB l=l.length:=by
 unfold aB
 induction l with
 | nil=>rfl
 | cons x l ih =>
  rw [BR,c5,ay]
  cases x with
  | zero=>simp;omega
  | succ x=>simp;omega
section
variable {P:Program} {w:World} {K:aa} {mg:Str→Option Value} {base:Heap} {C:Addr} {k:Nat} {f:Addr} {fd:FuncData}
namespace Dfill
def nN:List Str:=["town","k","found","built"]
def pP:List Str:=["town","k"]
abbrev sS:Stmt:=top 52
theorem sc:aR nN pP (ai sS):=⟨rfl,rfl,rfl,by decide +kernel,rfl,by decide +kernel,by decide +kernel⟩
def iq:Mp:=fun g xs=>match (a9 g)[xs.getD 0 0]? with
 | some l=>({ g with town:=l },aw ((g.n*g.n:Nat) - (aB g.town:Int)))
 | none=>(g,aw (-2))
theorem ok (F:pG K "answer_fill" "answer_fill" sS f fd) (W:Wd K mg C) (p:Ps ⟨P,w,K,mg,base,k⟩):eI P w K mg base ia (k+1) f fd pP (DD K C 1 iq):=by
 refine F.ok sc (fun vs H Q E h=>?_) (fun eU A0 outer s H vs Q E hr h=>?_)
 ·obtain ⟨_,_,_,_,xs,rfl,pF,_⟩:=h
  show (vL xs).length+1=_
  rw [eu,pF];rfl
 ·obtain ⟨A,F0,ow,a,xs,rfl,pF,t,ok,q⟩:=h
  obtain ⟨c,rfl⟩:=Md pF
  have G:Good (gY ia P w K mg base nN "answer_fill" (ai sS) f eU A0 outer s H E).qC k:=⟨hr,rfl,sc.nd,W.bl⟩
  refine ⟨_,aE (dh (i:=2) sc.nd rfl (Or.inl rfl) (mE (.call "town_ways" dE (x1 (.var 0)))))
   (aE (fw (mT (.op .ge (.var 1) (.un .len (.var 2)))) (br (b5 (mF (x1 VA)))) c_)
   (aE (dh (i:=3) sc.nd rfl (Or.inl rfl) (mE (.cnt (.fld (.var 0) "cells") (.int 0))))
   (aE (eH (pv 0) (mE (.ix (.var 2) (.var 1))) rfl)
   (br (b5 (mF (x1 (.var 3)))))))),?_⟩
  have hz:(1:Nat)≤sizeLine:=by decide
  refine ⟨lim H A ow,[some (tD a.now),none,none,none],_,qs,aA (t.Oq W.T ok) (ak (ak (ak aI))),aL §1 (fL ok),fun v F1 H1 ex dv=>?_⟩
  have t1:=t.same ex.hh
  have nO:jZ A F0 H ow F0 H1 ow:=jZ.refl.same ex.hh
  have sl:∀{G H1:Hp} {o:Option V},bT F1 G→Slots K G [some (.ref A),some (.int c),some v,o] [none,some (iN c),some (g9 (a9 a.now)),none]:=fun sm=>ak (aA (bO _) (aA (cT sm _ _ dv) (ak aI)))
  refine gj (sl (H1:=H1) ex.fh) (bu (ah rfl) (fC (ah rfl) iV) Pk) fun H2 s2=>?_
  have t2:=t1.same s2
  have q_:=nO.same s2
  by_cases hb:(a9 a.now).length≤c
  ·rw [decide_eq_true hb,if_pos rfl]
   have ee:iq a.now [c]=(a.now,aw (-2)):=by
    show (match (a9 a.now)[c]? with|some l=>_|none=>_:ae×aT)=_
    rw [bY hb]
   rw [ee] at q
   exact jg (sl (H1:=H2) (ex.fh.trans s2)) (ao bW aJ) fun p vs H2 s2 np hp _ dl=>gF t2 q_ s2 np hp dl rfl hz q
  ·rw [decide_eq_false hb,if_neg (by decide)]
   obtain ⟨wy,hw⟩:∃wy,(a9 a.now)[c]?=some wy:=⟨_,au (by omega)⟩
   have hwm:=b7 hw
   have ee:iq a.now [c]=({ a.now with town:=wy },aw ((a.now.n*a.now.n:Nat) - (aB a.now.town:Int))):=by
    show (match (a9 a.now)[c]? with|some l=>_|none=>_:ae×aT)=_
    rw [hw]
   rw [ee] at q
   refine gD (ρ:=[some (tD a.now),none,none,none]) (aA (t2.den W.T ok) (ak (ak (ak aI)))) (Pg (cv (ah rfl) (eF a.now)) bb (LL (h:=0))) fun u H3 s3 du=>?_
   obtain rfl:=bD du
   have t3:=t2.same s3
   have oj:=q_.same s3
   refine ⟨F1,_,_,(ex.fh.trans s2).trans s3,sl (H1:=H3) (same_refl F1),fE (ah rfl) (ah rfl) (Cv hw),fun u F2 H4 iE du=>?_⟩
   obtain ⟨p,rfl,IF⟩:=h7 du
   have t4:=t3.same iE.hh
   have vo:=oj.same iE.hh
   have hp:H4 p=some (.lst (vL wy)):=iE.fh _ _ IF
   have M5:H p=none∨p=ow.c:=by
    have h1:H p=none∨p=ow.c∨p=ow.k:=by
     cases hh:H p with
     | none=>exact .inl rfl
     | some o =>
      have h3:H3 p≠none:=by rw [s3 _ _ (s2 _ _ (ex.hh _ _ hh))];exact fun z=>nomatch z
      cases hf:F1 p with
      | none=>rw [iE.nw p hf h3] at IF;cases IF
      | some o' =>
       have h4:=iE.ff _ _ hf
       rw [IF] at h4
       cases h4
       rcases tR t ex hf with e|e|e
       ·rw [e] at hh;cases hh
       ·exact .inr (.inl e)
       ·exact .inr (.inr e)
    rcases h1 with e|e|e
    ·exact .inl e
    ·exact .inr e
    ·exfalso
     subst e
     have:=t4.hk
     rw [hp] at this
     injection this with this
     injection this with this
     exact JP ok hwm (Rn this)
   have Pp:F0 p=none∧p≠ow.k∧p≠ow.e∧p≠ow.l:=by
    rcases M5 with e|e
    ·obtain ⟨n1,n2,n3,n4,n5⟩:=t.new e
     exact ⟨n1,n3,n4,n5⟩
    ·subst e
     exact ⟨t.nf _ (.inr (.inl rfl)),t.ap.ck,t.ap.ce,t.ap.cl⟩
   obtain ⟨dx,gs,y1,y2,y3,y4,y5,y6,y7⟩:=t4.ex
   refine ⟨_,rfl,A,C,dx,gs,rfl,y1,W.T.cl,W.T.cells,by omega,?_⟩
   have t5:=t4.so y1 hp Pp.1 Pp.2
   have uh:=vo.fc (p:=p) (M5.elim .inr fun e=>.inl (.inr (.inl e))) (.ins C dx (cX "cells" (.ref p) gs))
   refine jg (ρ:=[none,none,none,some (iN (a.now.town.count 0))]) (ak (ak (ak (aA (bO _) aI)))) (ao (ah rfl) aJ) fun p vs H4 s4 np hp _ dl=>gF t5 uh s4 np hp dl ?_ hz q
   have:=Ro a.now.town
   have ht:=ok.town
   show [iN (a.now.town.count 0)]=[D.int ((a.now.n*a.now.n:Nat) - (aB a.now.town:Int))]
   unfold iN
   congr 2
   omega
end Dfill
def XJ (K:aa) (C:Addr):Sp:=fun vs H Q _=>∃(A:Addr) (F:Hp) (w:Own) (a:aD),vs=[.ref A]∧TS K C F H A w a∧cP a.now∧∀p H',bT H H'→H p=none→H' p=some (.lst (vL (cC a.now).flatten))→Q (.ref p) H'
namespace Dviews
def nN:List Str:=["town","views","side","i"]
def pP:List Str:=["town"]
abbrev sS:Stmt:=top 60
theorem sc:aR nN pP (ai sS):=⟨rfl,rfl,rfl,by decide +kernel,rfl,by decide +kernel,by decide +kernel⟩
theorem ok (F:pG K "town_views" "town_views" sS f fd) (W:Wd K mg C) (p:Ps ⟨P,w,K,mg,base,k⟩):eI P w K mg base ia (k+1) f fd pP (XJ K C):=by
 refine F.ok sc (fun vs H Q E h=>?_) (fun eU A0 outer s H vs Q E hr h=>?_)
 ·obtain ⟨_,_,_,_,rfl,_⟩:=h
  rfl
 ·obtain ⟨A,F0,ow,a,rfl,t,ok,q⟩:=h
  have G:Good (gY ia P w K mg base nN "town_views" (ai sS) f eU A0 outer s H E).qC k:=⟨hr,rfl,sc.nd,W.bl⟩
  refine ⟨_,aE (XG (N:=nN) (sc:=ai sS) (.own 1 (.lst .nil) []) G (fun _=>rfl) PassesOwn.never rfl rfl (by okt) (by decide +kernel)) (aE (XG (N:=nN) (sc:=ai sS) jA G (fun _=>rfl) PassesOwn.never rfl rfl (by unfold jA gB;okt) (by decide +kernel)) (br (b5 (pv 1)))),?_⟩
  obtain ⟨x,hx⟩:=BG ok
  refine ⟨H,H,H,[.fz (tD a.now),.no,.no,.no],.nx [.fz (tD a.now),.ow [],.no,.no],uF (ds:=[tD a.now]) (same_refl H) (bB (t.den W.T ok) bU),by simp only [uc,bF,jO,bw,Mi.listOf];rfl,fun F1 H1 OQ _ S1=>⟨H,H,F1,_,_,S1,hx,fun F' H' fb _ S=>?_⟩⟩
  obtain ⟨p,vs,h1,h2,_,h4,_,h6⟩:=S.ow 1 _ rfl
  rw [qo h6] at h4
  exact ⟨_,h1,q p H' S.ext.hh h2 h4⟩
end Dviews
namespace Dask
def nN:List Str:=["town"]
abbrev sS:Stmt:=top 59
theorem sc:aR nN nN (ai sS):=⟨rfl,rfl,rfl,by decide +kernel,rfl,by decide +kernel,by decide +kernel⟩
def iq:Mp:=fun g _=>if gd g=true then ({ g with clues:=cC g },aw (4*g.n:Nat)) else (g,aw (-12))
theorem ok (F:pG K "answer_ask" "answer_ask" sS f fd) (W:Wd K mg C) (p:Ps ⟨P,w,K,mg,base,k⟩) (hv:qQ ⟨P,w,K,mg,base,k⟩ "town_views" ["town"] (XJ K C)):eI P w K mg base ia (k+1) f fd nN (DD K C 0 iq):=by
 refine F.ok sc (fun vs H Q E h=>?_) (fun eU A0 outer s H vs Q E hr h=>?_)
 ·obtain ⟨_,_,_,_,xs,rfl,pF,_⟩:=h
  show (vL xs).length+1=_
  rw [eu,pF];rfl
 ·obtain ⟨A,F0,ow,a,xs,rfl,pF,t,ok,q⟩:=h
  obtain rfl:=GV pF
  have G:Good (gY ia P w K mg base nN "answer_ask" (ai sS) f eU A0 outer s H E).qC k:=⟨hr,rfl,sc.nd,W.bl⟩
  refine ⟨_,aE (fw (mT (.op .isin (.int 0) (.fld (.var 0) "cells"))) (br (b5 (mF (x1 (.gl "NO_TOWER" (.int (-12))))))) c_)
   (aE (eH (pv 0) (mC hv (bp (pv 0) cx)) rfl)
   (br (b5 (mF (x1 (.un .len (.fld (.var 0) "clues"))))))),?_⟩
  have hz:(1:Nat)≤sizeLine:=by decide
  refine gj (ρ:=[some (tD a.now)]) (aA (t.den W.T ok) aI) (bu bb (cv (ah rfl) (eF a.now)) (Ly (x:=0))) fun H1 s1=>?_
  have t1:=t.same s1
  have nO:jZ A F0 H ow F0 H1 ow:=jZ.refl.same s1
  have hf:=EW a.now
  by_cases hb:0∈a.now.town
  ·rw [decide_eq_true hb,if_pos rfl]
   rw [decide_eq_true hb] at hf
   have ee:iq a.now []=(a.now,aw (-12)):=if_neg (by rw [hf];decide)
   rw [ee] at q
   exact jg (ρ:=[none]) (ak aI) (ao bW aJ) fun p vs H2 s2 np hp _ dl=>gF t1 nO s2 np hp dl rfl hz q
  ·rw [decide_eq_false hb,if_neg (by decide)]
   rw [decide_eq_false hb] at hf
   have ee:iq a.now []=({ a.now with clues:=cC a.now },aw (4*a.now.n:Nat)):=if_pos (by rw [hf];rfl)
   rw [ee] at q
   refine ⟨_,rfl,A,F0,ow,a,rfl,t1,ok,fun p H2 s2 np hp=>?_⟩
   have t2:=t1.same s2
   have q_:=nO.same s2
   obtain ⟨n1,n2,n3,n4,n5⟩:=t1.new np
   obtain ⟨dx,gs,y1,y2,y3,y4,y5,y6,y7⟩:=t2.ex
   refine ⟨_,rfl,A,C,dx,gs,rfl,y1,W.T.cl,W.T.clues,by omega,?_⟩
   have t3:=t2.u5 y1 hp n1 ⟨n2,n4,n5⟩
   have oj:=q_.fk (p:=p) (.inr (nO.zQ _ np)) (.ins C dx (cX "clues" (.ref p) gs))
   have o3:=Iw ok
   have el:vp .len (iL (cC a.now).flatten)=some (iN (4*a.now.n)):=by rw [gP,BH]
   exact jg (ρ:=[some (tD { a.now with clues:=cC a.now })]) (aA (t3.den W.T o3) aI) (ao (fC (cv (ah rfl) (nY _)) el) aJ) fun p vs H2 s2 np hp _ dl=>gF t3 oj s2 np hp dl rfl hz q
end Dask
theorem UE {a b c d:List Nat} (h:a.length+b.length+c.length+d.length≤900) {e1 e2 e3:E} {ρ:eA} (h1:bF e1 ρ=some (iL a)) (h2:bF e2 ρ=some (iL b)) (h3:bF e3 ρ=some (iL c)):bF (.op .add (.op .add e1 e2) e3) ρ=some (iL (a++b++c)) :=
 bu (bu h1 h2 (l7 (by omega))) h3 (l7 (by rw [ax];omega))
theorem yX (g:ae) (j:Nat):(dJ g j).length=g.n:=by unfold dJ;rw [af,aP]
noncomputable abbrev Pq (x:Str) (j:Nat):E:=.call "side_clues" jB (x2 (.var 0) (.gl x (.int j)))
namespace Dturn
def nN:List Str:=["town","cells","above","below"]
def pP:List Str:=["town"]
abbrev sS:Stmt:=top 94
theorem sc:aR nN pP (ai sS):=⟨rfl,rfl,rfl,by decide +kernel,rfl,by decide +kernel,by decide +kernel⟩
def iq:Mp:=fun g _=>(⟨g.n,zN g.n g.town,eT g.n g.clues⟩,aw 0)
theorem ok (F:pG K "answer_turn" "answer_turn" sS f fd) (W:Wd K mg C) (p:Ps ⟨P,w,K,mg,base,k⟩):eI P w K mg base ia (k+1) f fd pP (DD K C 0 iq):=by
 refine F.ok sc (fun vs H Q E h=>?_) (fun eU A0 outer s H vs Q E hr h=>?_)
 ·obtain ⟨_,_,_,_,xs,rfl,pF,_⟩:=h
  show (vL xs).length+1=_
  rw [eu,pF];rfl
 ·obtain ⟨A,F0,ow,a,xs,rfl,pF,t,ok,q⟩:=h
  obtain rfl:=GV pF
  have G:Good (gY ia P w K mg base nN "answer_turn" (ai sS) f eU A0 outer s H E).qC k:=⟨hr,rfl,sc.nd,W.bl⟩
  refine ⟨_,aE (dh (i:=1) sc.nd rfl (Or.inl rfl) (mE (.call "towers_from" gL (x2 (.var 0) (.gl "BELOW" (.int 2))))))
   (aE (dh (i:=2) sc.nd rfl (Or.inl rfl) (mE (.un .rev (Pq "LEFT" 3))))
   (aE (dh (i:=3) sc.nd rfl (Or.inl rfl) (mE (.un .rev (Pq "RIGHT" 1))))
   (aE (eH (pv 0) (xI B8 (mE (.op .add (.op .add (.var 2) (Pq "ABOVE" 0)) (.var 3))) (mE (Pq "BELOW" 2))) rfl)
   (aE (eH (pv 0) (pv 1) rfl)
   (br (b5 (mF (x1 (.int 0))))))))),?_⟩
  have hn:=ok.hi
  have hz:(1000:Nat)≤sizeLine:=by decide
  refine ⟨lim H A ow,[some (tD a.now),none,none,none],_,qs,aA (t.Oq W.T ok) (ak (ak (ak aI))),aL (ao (ah rfl) (ao bW aJ)) (qk (k:=2) ok),fun v F1 H1 ex dv=>?_⟩
  obtain ⟨p,rfl,Pr⟩:=h7 dv
  have t1:=t.same ex.hh
  have nO:jZ A F0 H ow F0 H1 ow:=jZ.refl.same ex.hh
  have M5:=tR t ex Pr
  have sl:∀{H2:Hp} {u v:Option V} {x y:Option D},TS K C F0 H2 A ow a→Slots K H2 [u,v] [x,y]→Slots K H2 [some (.ref A),some (.ref p),u,v] [some (tD a.now),none,x,y]:=fun t2 h=>aA (t2.den W.T ok) (ak h)
  refine gD (sl t1 (x:=none) (y:=none) (ak (ak aI))) (fC (aL (ao (ah rfl) (ao bW aJ)) (eY (k:=3) ok (by decide))) uI) fun v2 H2 s2 d2=>?_
  have t2:=t1.same s2
  refine gD (sl t2 (x:=none) (y:=none) (ak (ak aI))) (fC (aL (ao (ah rfl) (ao bW aJ)) (eY (k:=1) ok (by decide))) uI) fun v3 H3 s3 d3=>?_
  have t3:=t2.same s3
  have hl:∀j,(dJ a.now j).length=a.now.n:=yX a.now
  refine gD (sl t3 (aA (cT s3 _ _ d2) (aA d3 aI))) (UE (d:=[]) (by rw [a7,a7,hl,hl,hl];show _+0≤900;omega) (ah rfl) (aL (ao (ah rfl) (ao bW aJ)) (eY (k:=0) ok (by decide))) (ah rfl)) fun v4 H4 s4 d4=>?_
  obtain ⟨p4,rfl,h4⟩:=h7 d4
  have t4:=t3.same s4
  refine gD (sl t4 (x:=none) (y:=none) (ak (ak aI))) (aL (ao (ah rfl) (ao bW aJ)) (eY (k:=2) ok (by decide))) fun v5 H5 s5 d5=>?_
  obtain ⟨p5,rfl,h5⟩:=h7 d5
  have t5:=t4.same s5
  have uh:=(((nO.same s2).same s3).same s4).same s5
  refine ⟨p4,p5,_,_,rfl,rfl,s5 _ _ h4,h5,by rw [eu,eu,ax,ax,a7,a7,hl,hl,hl,hl];omega,fun z nz=>?_⟩
  have ec:vL ((dJ a.now 3).reverse++dJ a.now 0++(dJ a.now 1).reverse)++vL (dJ a.now 2)=vL (eT a.now.n a.now.clues).flatten:=by
   rw [GS hn];unfold vL;rw [←bo]
  rw [ec]
  have sz:=d8 nz (.lst (vL (eT a.now.n a.now.clues).flatten))
  have t6:=t5.same sz
  have IG:=uh.same sz
  obtain ⟨n1,n2,n3,n4,n5⟩:=t5.new nz
  obtain ⟨dx,gs,y1,y2,y3,y4,y5,y6,y7⟩:=t6.ex
  refine ⟨_,rfl,A,C,dx,gs,rfl,y1,W.T.cl,W.T.clues,by omega,?_⟩
  have t7:=t6.u5 y1 aK n1 ⟨n2,n4,n5⟩
  have Gd:=IG.fk (p:=z) (.inr (uh.zQ _ nz)) (.ins C dx (cX "clues" (.ref z) gs))
  have hp:H5 p=some (.lst (vL (n_ a.now 2))):=s5 _ _ (s4 _ _ (s3 _ _ (s2 _ _ (ex.fh _ _ Pr))))
  have Pp:F0 p=none∧p≠z∧p≠ow.e∧p≠ow.l:=by
   have Rp:p≠z:=fun e=>by rw [e,nz] at hp;cases hp
   rcases M5 with e|e|e
   ·obtain ⟨m1,m2,m3,m4,m5⟩:=t.new e
    exact ⟨m1,Rp,m4,m5⟩
   ·exact ⟨e▸t.nf _ (.inr (.inl rfl)),Rp,e▸t.ap.ce,e▸t.ap.cl⟩
   ·exact ⟨e▸t.nf _ (.inr (.inr (.inl rfl))),Rp,e▸t.ap.ke,e▸t.ap.kl⟩
  obtain ⟨Mm,Mn,w1,w2,w3,w4,w5,w6,w7⟩:=t7.ex
  refine ⟨_,rfl,_,rfl,A,C,Mm,Mn,rfl,w1,W.T.cl,W.T.cells,by omega,?_⟩
  have XM:upd (upd H5 z (.lst (vL (eT a.now.n a.now.clues).flatten))) A (.ins C dx (cX "clues" (.ref z) gs)) p=some (.lst (vL (n_ a.now 2))):=by
   rw [aM (nQ (sz _ _ hp) y1 fun e=>nomatch e)]
   exact sz _ _ hp
  have t8:=t7.so w1 XM Pp.1 Pp.2
  have Pt:=Gd.fc (p:=p) (M5.elim .inr fun e=>.inl (e.elim (fun e=>.inr (.inl e)) fun e=>.inr (.inr (.inl e)))) (.ins C Mm (cX "cells" (.ref p) Mn))
  have ee:(iq a.now []).1={ { a.now with clues:=eT a.now.n a.now.clues } with town:=n_ a.now 2 }:=by
   rw [←JO];rfl
  rw [ee] at q
  exact jg (ρ:=[none,none,none,none]) (ak (ak (ak (ak aI)))) (ao bb aJ) fun p vs H4 s4 np hp _ dl=>gF t8 Pt s4 np hp dl rfl (by show 1≤_;omega) q
end Dturn
namespace Dmirror
def nN:List Str:=["town","cells","above","below"]
def pP:List Str:=["town"]
abbrev sS:Stmt:=top 95
theorem sc:aR nN pP (ai sS):=⟨rfl,rfl,rfl,by decide +kernel,rfl,by decide +kernel,by decide +kernel⟩
def iq:Mp:=fun g _=>(⟨g.n,vk g.n g.town,dS g.n g.clues⟩,aw 0)
theorem ok (F:pG K "answer_mirror" "answer_mirror" sS f fd) (W:Wd K mg C) (p:Ps ⟨P,w,K,mg,base,k⟩):eI P w K mg base ia (k+1) f fd pP (DD K C 0 iq):=by
 refine F.ok sc (fun vs H Q E h=>?_) (fun eU A0 outer s H vs Q E hr h=>?_)
 ·obtain ⟨_,_,_,_,xs,rfl,pF,_⟩:=h
  show (vL xs).length+1=_
  rw [eu,pF];rfl
 ·obtain ⟨A,F0,ow,a,xs,rfl,pF,t,ok,q⟩:=h
  obtain rfl:=GV pF
  have G:Good (gY ia P w K mg base nN "answer_mirror" (ai sS) f eU A0 outer s H E).qC k:=⟨hr,rfl,sc.nd,W.bl⟩
  refine ⟨_,aE (dh (i:=1) sc.nd rfl (Or.inl rfl) (mE (.call "towers_from" gL (x2 (.var 0) (.gl "RIGHT" (.int 1))))))
   (aE (dh (i:=2) sc.nd rfl (Or.inl rfl) (mE (.un .rev (Pq "ABOVE" 0))))
   (aE (dh (i:=3) sc.nd rfl (Or.inl rfl) (mE (.un .rev (Pq "BELOW" 2))))
   (aE (eH (pv 0) (xI B8 (mE (.op .add (.op .add (.var 2) (Pq "LEFT" 3)) (.var 3))) (mE (Pq "RIGHT" 1))) rfl)
   (aE (eH (pv 0) (pv 1) rfl)
   (br (b5 (mF (x1 (.int 0))))))))),?_⟩
  have hn:=ok.hi
  have hz:(1000:Nat)≤sizeLine:=by decide
  refine ⟨lim H A ow,[some (tD a.now),none,none,none],_,qs,aA (t.Oq W.T ok) (ak (ak (ak aI))),aL (ao (ah rfl) (ao bW aJ)) (qk (k:=1) ok),fun v F1 H1 ex dv=>?_⟩
  obtain ⟨p,rfl,Pr⟩:=h7 dv
  have t1:=t.same ex.hh
  have nO:jZ A F0 H ow F0 H1 ow:=jZ.refl.same ex.hh
  have M5:=tR t ex Pr
  have sl:∀{H2:Hp} {u v:Option V} {x y:Option D},TS K C F0 H2 A ow a→Slots K H2 [u,v] [x,y]→Slots K H2 [some (.ref A),some (.ref p),u,v] [some (tD a.now),none,x,y]:=fun t2 h=>aA (t2.den W.T ok) (ak h)
  refine gD (sl t1 (x:=none) (y:=none) (ak (ak aI))) (fC (aL (ao (ah rfl) (ao bW aJ)) (eY (k:=0) ok (by decide))) uI) fun v2 H2 s2 d2=>?_
  have t2:=t1.same s2
  refine gD (sl t2 (x:=none) (y:=none) (ak (ak aI))) (fC (aL (ao (ah rfl) (ao bW aJ)) (eY (k:=2) ok (by decide))) uI) fun v3 H3 s3 d3=>?_
  have t3:=t2.same s3
  have hl:∀j,(dJ a.now j).length=a.now.n:=yX a.now
  refine gD (sl t3 (aA (cT s3 _ _ d2) (aA d3 aI))) (UE (d:=[]) (by rw [a7,a7,hl,hl,hl];show _+0≤900;omega) (ah rfl) (aL (ao (ah rfl) (ao bW aJ)) (eY (k:=3) ok (by decide))) (ah rfl)) fun v4 H4 s4 d4=>?_
  obtain ⟨p4,rfl,h4⟩:=h7 d4
  have t4:=t3.same s4
  refine gD (sl t4 (x:=none) (y:=none) (ak (ak aI))) (aL (ao (ah rfl) (ao bW aJ)) (eY (k:=1) ok (by decide))) fun v5 H5 s5 d5=>?_
  obtain ⟨p5,rfl,h5⟩:=h7 d5
  have t5:=t4.same s5
  have uh:=(((nO.same s2).same s3).same s4).same s5
  refine ⟨p4,p5,_,_,rfl,rfl,s5 _ _ h4,h5,by rw [eu,eu,ax,ax,a7,a7,hl,hl,hl,hl];omega,fun z nz=>?_⟩
  have ec:vL ((dJ a.now 0).reverse++dJ a.now 3++(dJ a.now 2).reverse)++vL (dJ a.now 1)=vL (dS a.now.n a.now.clues).flatten:=by
   rw [CO hn];unfold vL;rw [←bo]
  rw [ec]
  have sz:=d8 nz (.lst (vL (dS a.now.n a.now.clues).flatten))
  have t6:=t5.same sz
  have IG:=uh.same sz
  obtain ⟨n1,n2,n3,n4,n5⟩:=t5.new nz
  obtain ⟨dx,gs,y1,y2,y3,y4,y5,y6,y7⟩:=t6.ex
  refine ⟨_,rfl,A,C,dx,gs,rfl,y1,W.T.cl,W.T.clues,by omega,?_⟩
  have t7:=t6.u5 y1 aK n1 ⟨n2,n4,n5⟩
  have Gd:=IG.fk (p:=z) (.inr (uh.zQ _ nz)) (.ins C dx (cX "clues" (.ref z) gs))
  have hp:H5 p=some (.lst (vL (n_ a.now 1))):=s5 _ _ (s4 _ _ (s3 _ _ (s2 _ _ (ex.fh _ _ Pr))))
  have Pp:F0 p=none∧p≠z∧p≠ow.e∧p≠ow.l:=by
   have Rp:p≠z:=fun e=>by rw [e,nz] at hp;cases hp
   rcases M5 with e|e|e
   ·obtain ⟨m1,m2,m3,m4,m5⟩:=t.new e
    exact ⟨m1,Rp,m4,m5⟩
   ·exact ⟨e▸t.nf _ (.inr (.inl rfl)),Rp,e▸t.ap.ce,e▸t.ap.cl⟩
   ·exact ⟨e▸t.nf _ (.inr (.inr (.inl rfl))),Rp,e▸t.ap.ke,e▸t.ap.kl⟩
  obtain ⟨Mm,Mn,w1,w2,w3,w4,w5,w6,w7⟩:=t7.ex
  refine ⟨_,rfl,_,rfl,A,C,Mm,Mn,rfl,w1,W.T.cl,W.T.cells,by omega,?_⟩
  have XM:upd (upd H5 z (.lst (vL (dS a.now.n a.now.clues).flatten))) A (.ins C dx (cX "clues" (.ref z) gs)) p=some (.lst (vL (n_ a.now 1))):=by
   rw [aM (nQ (sz _ _ hp) y1 fun e=>nomatch e)]
   exact sz _ _ hp
  have t8:=t7.so w1 XM Pp.1 Pp.2
  have Pt:=Gd.fc (p:=p) (M5.elim .inr fun e=>.inl (e.elim (fun e=>.inr (.inl e)) fun e=>.inr (.inr (.inl e)))) (.ins C Mm (cX "cells" (.ref p) Mn))
  have ee:(iq a.now []).1={ { a.now with clues:=dS a.now.n a.now.clues } with town:=n_ a.now 1 }:=by
   rw [←E3];rfl
  rw [ee] at q
  exact jg (ρ:=[none,none,none,none]) (ak (ak (ak (ak aI)))) (ao bb aJ) fun p vs H4 s4 np hp _ dl=>gF t8 Pt s4 np hp dl rfl (by show 1≤_;omega) q
end Dmirror
end
end Tn
namespace Tn
open PySem PySem.Spec PyProof.Rows L2 Mi
theorem C3 {K:aa} {H:Hp} {p:Addr} {r:aT} (h:H p=some (.lst (aV r))) (hz:r.out.length≤900):Den K H (dq r) (.ref p) :=
 f9 (by rw [ay,af];exact aO (show _+1≤1000 by omega) (by decide)) h (CS r)
theorem tS {K:aa} {H:Hp} {r:aT} {v:V} (h:Den K H (dq r) v):∃p,v=.ref p∧H p=some (.lst (aV r)):=by
 obtain ⟨_,p,vs,rfl,h1,h2⟩:=dd h
 rw [Mo h2] at h1
 exact ⟨p,rfl,h1⟩
def gn (g:ae):aT:=told g .hint
theorem IH {g:ae} (h:(gn g).ret < 0):(eP g.n g.town g.clues=true∨fF g.n g.town g.clues=none)∧gn g=(if eP g.n g.town g.clues=true then aw (-33) else aw (-6)):=by
 unfold gn at h ⊢
 rw [qP] at h ⊢
 by_cases hs:eP g.n g.town g.clues=true
 ·rw [if_pos hs,if_pos hs]
  exact ⟨.inl hs,rfl⟩
 ·rw [if_neg hs] at h ⊢
  rw [if_neg hs]
  cases hh:fF g.n g.town g.clues with
  | none=>exact ⟨.inr rfl,rfl⟩
  | some x =>
   rw [hh] at h
   have h:((x.1:Nat):Int) < 0:=h
   omega
theorem Ff {g:ae} (h:0≤(gn g).ret):∃x,eP g.n g.town g.clues=false∧fF g.n g.town g.clues=some x∧gn g=⟨x.1,[x.2]⟩:=by
 unfold gn at h ⊢
 rw [qP] at h ⊢
 by_cases hs:eP g.n g.town g.clues=true
 ·rw [if_pos hs] at h
  exact absurd h (by decide)
 ·rw [if_neg hs] at h ⊢
  cases hh:fF g.n g.town g.clues with
  | none=>rw [hh] at h;exact absurd h (by decide)
  | some x=>exact ⟨x,by cases h2:eP g.n g.town g.clues with|true=>exact absurd h2 hs|false=>rfl,rfl,rfl⟩
theorem BL (g:ae):(gn g).out.length≤900:=by
 unfold gn
 rw [qP]
 split
 ·exact c8 _
 ·split
  ·show 1≤900;decide
  ·exact c8 _
section
variable {P:Program} {w:World} {K:aa} {mg:Str→Option Value} {base:Heap} {C:Addr} {k:Nat} {f:Addr} {fd:FuncData}
namespace Dsolve
def nN:List Str:=["town","hint","built"]
def pP:List Str:=["town"]
abbrev sS:Stmt:=top 36
theorem sc:aR nN pP (ai sS):=⟨rfl,rfl,rfl,by decide +kernel,rfl,by decide +kernel,by decide +kernel⟩
def iq:Mp:=fun g _=>if (gn g).ret < 0 then (g,gn g) else ({ g with town:=dF g.n g.clues (g.n*g.n) g.town },aw ((aB (dF g.n g.clues (g.n*g.n) g.town):Int) - aB g.town))
theorem ok (F:pG K "answer_solve" "answer_solve" sS f fd) (W:Wd K mg C) (p:Ps ⟨P,w,K,mg,base,k⟩):eI P w K mg base ia (k+1) f fd pP (DD K C 0 iq):=by
 refine F.ok sc (fun vs H Q E h=>?_) (fun eU A0 outer s H vs Q E hr h=>?_)
 ·obtain ⟨_,_,_,_,xs,rfl,pF,_⟩:=h
  show (vL xs).length+1=_
  rw [eu,pF];rfl
 ·obtain ⟨A,F0,ow,a,xs,rfl,pF,t,ok,q⟩:=h
  obtain rfl:=GV pF
  have G:Good (gY ia P w K mg base nN "answer_solve" (ai sS) f eU A0 outer s H E).qC k:=⟨hr,rfl,sc.nd,W.bl⟩
  refine ⟨_,aE (dh (i:=1) sc.nd rfl (Or.inl rfl) (mE (.call "answer_hint" (zP .hint) (x1 (.var 0)))))
   (aE (fw (mT (.op .lt (.ix (.var 1) (.int 0)) (.int 0))) (br (b5 (pv 1))) c_)
   (aE (dh (i:=2) sc.nd rfl (Or.inl rfl) rR)
   (aE (DM PassesOwn.never (mT (.op .ge (.ix (.var 1) (.int 0)) (.int 0)))
    (aE (B2 (mE (.ix (.var 1) (.int 1))) (B1 (jL (pv 0) rfl) (mE (.ix (.var 1) (.int 0))) set_list))
    (aE (Kq (i:=2) sc.nd rfl (Or.inl rfl) rR Ks)
    (br (dh (i:=1) sc.nd rfl (Or.inl rfl) (mE (.call "answer_hint" (zP .hint) (x1 (.var 0)))))))))
   (br (b5 (mF (x1 (.var 2)))))))),?_⟩
  have hz:(1:Nat)≤sizeLine:=by decide
  refine ⟨lim H A ow,[some (tD a.now),none,none],_,qs,aA (t.Oq W.T ok) (ak (ak aI)),aL §1 (M3 ok),fun v F1 H1 ex dv=>?_⟩
  obtain ⟨ph,rfl,Pr⟩:=tS (r:=gn a.now) dv
  have t1:=t.same ex.hh
  have nO:jZ A F0 H ow F0 H1 ow:=jZ.refl.same ex.hh
  have IF:H1 ph=some (.lst (aV (gn a.now))):=ex.fh _ _ Pr
  have YD:∀{H2:Hp} {x o:Option V} {p:Addr} {g:ae},H2 p=some (.lst (aV (gn g)))→Slots K H2 [x,some (.ref p),o] [none,some (dq (gn g)),none]:=fun h=>ak (aA (C3 h (BL _)) (ak aI))
  have YE:∀{g:ae},Gf (dq (gn g)) (.int 0)=some (.int (gn g).ret):=rfl
  refine gj (YD IF) (bu (fE (ah rfl) bb YE) bb rfl) fun H2 s2=>?_
  have t2:=t1.same s2
  have q_:=nO.same s2
  by_cases Ot:(gn a.now).ret < 0
  ·rw [decide_eq_true Ot,if_pos rfl]
   have ee:iq a.now []=(a.now,gn a.now):=if_pos Ot
   rw [ee] at q
   have vm:H ph=none:=by
    have nn:∀l:List Nat,aV (gn a.now)≠vL l:=fun l e=>by
     unfold aV vL at e
     cases l with
     | nil=>cases e
     | cons y l =>
      injection e with e _
      injection e with e
      omega
    rcases tR t ex Pr with e|e|e
    ·exact e
    ·have:=t1.hc
     rw [←e,IF] at this
     injection this with this
     injection this with this
     exact absurd this (nn _)
    ·have:=t1.hk
     rw [←e,IF] at this
     injection this with this
     injection this with this
     exact absurd this (nn _)
   refine ⟨_,rfl,?_⟩
   have iE:=Ext.add t.fh (ex.hh.trans s2) vm (s2 _ _ IF)
   exact q _ _ H2 ow (t.ext iE) (jZ.refl.ext iE) (C3 aK (BL _))
  ·rw [decide_eq_false Ot,if_neg (by decide)]
   have ee:iq a.now []=({ a.now with town:=dF a.now.n a.now.clues (a.now.n*a.now.n) a.now.town },aw ((aB (dF a.now.n a.now.clues (a.now.n*a.now.n) a.now.town):Int) - aB a.now.town)):=if_neg Ot
   rw [ee] at q
   let gt:vh→ae:=fun l=>{ a.now with town:=l }
   refine ⟨fun m σ H3=>∃(p:Addr) (b fu:Nat) (l:vh),m=100 - b∧σ=[some (.ref A),some (.ref p),some (.int b)]∧TS K C F0 H3 A ow { a with now:=gt l }∧jZ A F0 H ow F0 H3 ow∧cP (gt l)∧H3 p=some (.lst (aV (gn (gt l)))) ∧
     dF a.now.n a.now.clues (a.now.n*a.now.n) a.now.town=dF a.now.n a.now.clues fu l∧aB l=aB a.now.town+b∧l.length≤fu+aB l,
    ⟨_,ph,0,a.now.n*a.now.n,a.now.town,rfl,rfl,t2,q_,ok,s2 _ _ IF,rfl,rfl,by rw [ok.town];omega⟩,?_⟩
   rintro m σ H3 ⟨p,b,fu,l,rfl,rfl,t3,oj,o3,YF,YG,P5,hfu⟩
   refine gj (YD YF) (bu (fE (ah rfl) bb YE) bb rfl) fun H4 s4=>?_
   have t4:=t3.same s4
   have vo:=oj.same s4
   by_cases NO:0≤(gn (gt l)).ret
   ·rw [decide_eq_true NO,if_pos rfl]
    refine ⟨_,fun fb H' h=>h,?_⟩
    obtain ⟨⟨c,h⟩,Vk,YH,hh⟩:=Ff NO
    obtain ⟨⟨kk,ii,hii,DV⟩,h0,W2,hhi⟩:=Xa.BF YH
    have hc:c < l.length:=by have:=o3.town;rw [show l.length=a.now.n*a.now.n from this];exact oB hii DV
    have JT:=s4 _ _ YF
    rw [hh] at JT
    have YI:∀{H2:Hp} {x o:Option V},H2 p=some (.lst (aV ⟨(c:Nat),[h]⟩))→Slots K H2 [x,some (.ref p),o] [none,some (dq ⟨(c:Nat),[h]⟩),none]:=fun h=>ak (aA (C3 h (by show 1≤900;decide)) (ak aI))
    refine gD (YI JT) (fE (ah rfl) bb (show Gf (dq ⟨(c:Nat),[h]⟩) (.int 1)=some (iN h) from rfl)) fun v H5 s5 dv=>?_
    obtain rfl:=bD dv
    have t5:=t4.same s5
    obtain ⟨dx,gs,y1,y2,y3,y4⟩:=t5.ex
    refine ⟨_,rfl,A,C,dx,gs,.ref ow.c,rfl,y1,W.T.cl,W.T.cells,y3,?_⟩
    refine gD (YI (s5 _ _ JT)) (fE (ah rfl) bb (show Gf (dq ⟨(c:Nat),[h]⟩) (.int 0)=some (iN c) from rfl)) fun v H6 s6 dv=>?_
    obtain rfl:=bD dv
    have t6:=t5.same s6
    have IG:=(vo.same s5).same s6
    refine ⟨ow.c,_,_,c,rfl,rfl,t6.hc,Fe hc,?_⟩
    rw [C2]
    have t7:=t6.cells (l.set c h)
    have Gd:=IG.put (.inr (.inl rfl)) (.lst (vL (l.set c h)))
    have o7:cP (gt (l.set c h)):=xp o3 (show h≤a.now.n from hhi)
    refine ⟨_,rfl,_,_,rfl,rfl,?_⟩
    refine gD (ρ:=[some (tD (gt (l.set c h))),none,none]) (aA (t7.den W.T o7) (ak (ak aI))) (aL §1 (M3 o7)) fun v H8 s8 dv=>?_
    obtain ⟨p8,rfl,hp8⟩:=tS (r:=gn (gt (l.set c h))) dv
    have UG:=qU hc h0 (show h≠0 by omega)
    obtain ⟨XN,rfl⟩:∃XN,fu=XN+1:=⟨fu - 1,by
     have:aB l < l.length:=by
      have h1:=Xc.yG (l.set c h)
      rw [cO,UG] at h1
      omega
     omega⟩
    have aaD:aB (l.set c h)≤16:=aO (Xc.yG _) (cP.GW o7).1
    exact ⟨_,show 100 - (b+1) < 100 - b by omega,p8,b+1,XN,l.set c h,rfl,rfl,t7.same s8,Gd.same s8,o7,hp8,by rw [YG,Xc.JN Vk YH],by rw [UG,P5];omega,by rw [cO,UG];omega⟩
   ·rw [decide_eq_false NO,if_neg (by decide)]
    obtain ⟨QA,_⟩:=IH (show (gn (gt l)).ret < 0 by omega)
    have XO:=Xc.GQ QA fu
    rw [YG,show dF a.now.n a.now.clues fu l=l from XO] at q
    refine jg (ρ:=[none,none,some (iN b)]) (ak (ak (aA (bO _) aI))) (ao (ah rfl) aJ) fun p vs H5 s5 np hp _ dl=>gF t4 vo s5 np hp dl ?_ hz q
    show [iN b]=[D.int ((aB l:Int) - aB a.now.town)]
    unfold iN
    congr 2
    omega
end Dsolve
end
end Tn
namespace Tn
open PySem PySem.Spec PyProof.Rows L2 Mi
theorem u_ {K:aa} {F:Hp} {d:D}:∀{ds:List D} {vs:List V},cG K F (ds++[d]) vs→∃us y,vs=us++[y]∧cG K F ds us∧Den K F d y
 | [],vs,h=>by
  obtain ⟨y,r,rfl,h1,h2⟩:=bJ h
  obtain rfl:=bL h2
  exact ⟨[],y,rfl,bU,h1⟩
 | e::ds,vs,h=>by
  obtain ⟨v,r,rfl,h1,h2⟩:=bJ h
  obtain ⟨us,y,rfl,h3,h4⟩:=u_ h2
  exact ⟨v::us,y,rfl,bB h1 h3,h4⟩
def Fg (K:aa) (C:Addr):Sp:=fun vs H Q _=>∃(A:Addr) (F:Hp) (w:Own) (a:aD),vs=[.ref A]∧TS K C F H A w a∧cP a.now∧∀v F' H',Ext F H F' H'→Den K F' (mD a.now) v→Q v H'
def Ou (K:aa) (C:Addr):Sp:=fun vs H Q _=>∃(A:Addr) (v:V) (F:Hp) (w:Own) (a:aD) (g:ae),vs=[.ref A,v]∧TS K C F H A w a∧Den K F (mD g) v∧cP g∧g.n=a.now.n ∧
 ∀H' w',TS K C F H' A w' { a with now:=g }→jZ A F H w F H' w'→Q .gg H'
def II (K:aa) (C:Addr):Sp:=fun vs H Q _=>∃(A:Addr) (v:V) (F:Hp) (w:Own) (a:aD) (g:ae),vs=[.ref A,v]∧TS K C F H A w a∧Den K F (mD g) v∧a.undo.length≤20 ∧
 ∀H' w',TS K C F H' A w' { a with undo:=(g::a.undo).take 20,redo:=[] }→jZ A F H w F H' w'→Q .gg H'
structure Ms (a:aD):Prop where
 now:cP a.now
 old:∀g∈a.undo++a.redo,cP g∧g.n=a.now.n
 we:a.undo.length+a.redo.length≤20
def VB (K:aa) (C:Addr) (R:aD→aD×aT):Sp:=fun vs H Q _=>∃(A:Addr) (F:Hp) (w:Own) (a:aD),vs=[.ref A]∧TS K C F H A w a∧Ms a ∧
 ∀v F' H' w',TS K C F' H' A w' (R a).1→jZ A F H w F' H' w'→Den K F' (dq (R a).2) v→Q v H'
def eD (f:Str) (n:Nat):D:=.obj [f] [.lst (aG n .any)]
theorem Fh (f:Str) (n:Nat):pX (eD f n) f=some (.lst (aG n .any)):=by
 show look f [f] _=_
 unfold look;rw [if_pos rfl]
theorem Fi {K:aa} {C A dx q:Addr} {H:Hp} {gs:List (Str×V)} {f:Str} {vs:List V} (h:H A=some (.ins C dx gs)) (c:MT K C) (n:iY K C f) (l:gs.lookup f=some (.ref q)) (hq:H q=some (.lst vs)) (hz:vs.length≤100):Den K H (eD f vs.length) (.ref A) :=
 yQ h c (gE n l tO) (bB (f9 (by rw [c9];exact aO hz (by decide)) hq (xq vs)) bU)
section
variable {P:Program} {w:World} {K:aa} {mg:Str→Option Value} {base:Heap} {C:Addr} {k:Nat} {f:Addr} {fd:FuncData}
namespace Dmoment
def nN:List Str:=["town"]
abbrev sS:Stmt:=top 63
theorem sc:aR nN nN (ai sS):=⟨rfl,rfl,rfl,by decide +kernel,rfl,by decide +kernel,by decide +kernel⟩
theorem ok (F:pG K "moment_of" "moment_of" sS f fd) (W:Wd K mg C):eI P w K mg base ia (k+1) f fd nN (Fg K C):=by
 refine F.ok sc (fun vs H Q E h=>?_) (fun eU A0 outer s H vs Q E hr h=>?_)
 ·obtain ⟨_,_,_,_,rfl,_⟩:=h
  rfl
 ·obtain ⟨A,F0,ow,a,rfl,t,ok,q⟩:=h
  have G:Good (gY ia P w K mg base nN "moment_of" (ai sS) f eU A0 outer s H E).qC k:=⟨hr,rfl,sc.nd,W.bl⟩
  have hg:Gl (gY ia P w K mg base nN "moment_of" (ai sS) f eU A0 outer s H E).qC "list" := fX (by show pD (ai sS) "list" = true;decide +kernel)
  refine ⟨_,br (b5 (KC (bp (lV ic hg W.bl.list boot_list (bp (jL (pv 0) rfl) cx)) (bp (lV ic hg W.bl.list boot_list (bp (jL (pv 0) rfl) cx)) cx)))),?_⟩
  obtain ⟨l1,l2,l3⟩:=ok.GW
  obtain ⟨dx,gs,y1,y2,y3,y4,y5⟩:=t.ex
  refine ⟨_,rfl,A,C,dx,gs,.ref ow.c,rfl,y1,W.T.cl,W.T.cells,y3,ow.c,_,rfl,.inl (eS.of t.hc),fun p np=>?_⟩
  have e1:=Ext.new t.fh np (.lst (vL a.now.town))
  have t1:=t.ext e1
  obtain ⟨dx,gs,y1,y2,y3,y4,y5⟩:=t1.ex
  refine ⟨_,rfl,A,C,dx,gs,.ref ow.k,rfl,y1,W.T.cl,W.T.clues,y4,ow.k,_,rfl,.inl (eS.of t1.hk),fun r nr=>?_⟩
  have e2:=Ext.new t1.fh nr (.lst (vL a.now.clues.flatten))
  have t2:=t1.ext e2
  refine ⟨by show 2≤sizeLine;decide,fun z nz=>?_⟩
  have e3:=Ext.new t2.fh nz (.tup [.ref p,.ref r])
  refine q _ _ _ ((e1.trans e2).trans e3) (xU (xG.of aK) (bB (nJ (e3.ff _ _ (e2.ff _ _ aK)) (by omega)) (bB (nJ (e3.ff _ _ aK) (by omega)) bU)))
end Dmoment
namespace Dbring
def nN:List Str:=["town","moment"]
abbrev sS:Stmt:=top 64
theorem sc:aR nN nN (ai sS):=⟨rfl,rfl,rfl,by decide +kernel,rfl,by decide +kernel,by decide +kernel⟩
theorem ok (F:pG K "bring_to" "bring_to" sS f fd) (W:Wd K mg C) (p:Ps ⟨P,w,K,mg,base,k⟩):eI P w K mg base ia (k+1) f fd nN (Ou K C):=by
 refine F.ok sc (fun vs H Q E h=>?_) (fun eU A0 outer s H vs Q E hr h=>?_)
 ·obtain ⟨_,_,_,_,_,_,rfl,_⟩:=h
  rfl
 ·obtain ⟨A,v,F0,ow,a,g,rfl,t,dv,ok,YJ,q⟩:=h
  have G:Good (gY ia P w K mg base nN "bring_to" (ai sS) f eU A0 outer s H E).qC k:=⟨hr,rfl,sc.nd,W.bl⟩
  have hg:Gl (gY ia P w K mg base nN "bring_to" (ai sS) f eU A0 outer s H E).qC "list" := fX (by show pD (ai sS) "list" = true;decide +kernel)
  refine ⟨_,aE (eH (pv 0) (lV ic hg W.bl.list boot_list (bp (mE (.ix (.var 1) (.int 0))) cx)) rfl)
   (br (eH (pv 0) (lV ic hg W.bl.list boot_list (bp (mE (.ix (.var 1) (.int 1))) cx)) rfl)),?_⟩
  have sl:Slots K F0 [some (.ref A),some v] [none,some (mD g)]:=ak (aA dv aI)
  refine ⟨F0,_,_,t.fh,sl,fE (ah rfl) bb (show Gf (mD g) (.int 0)=some (iL g.town) from rfl),fun u F1 H1 ex du=>?_⟩
  obtain ⟨pc,rfl,M5⟩:=h7 du
  have t1:=t.same ex.hh
  have nO:jZ A F0 H ow F0 H1 ow:=jZ.refl.same ex.hh
  refine ⟨pc,_,rfl,.inl (eS.of (ex.fh _ _ M5)),fun z nz=>?_⟩
  obtain ⟨n1,n2,n3,n4,n5⟩:=t1.new nz
  have sz:=d8 nz (.lst (vL g.town))
  have t2:=t1.same sz
  obtain ⟨dx,gs,y1,y2,y3,y4,y5,y6,y7⟩:=t2.ex
  refine ⟨_,rfl,A,C,dx,gs,rfl,y1,W.T.cl,W.T.cells,by omega,?_⟩
  have t3:=t2.so y1 aK n1 ⟨n3,n4,n5⟩
  have oj:=(nO.same sz).fc (p:=z) (.inr (nO.zQ _ nz)) (.ins C dx (cX "cells" (.ref z) gs))
  refine ⟨F0,_,_,t3.fh,sl,fE (ah rfl) bb (show Gf (mD g) (.int 1)=some (iL g.clues.flatten) from rfl),fun u F4 H4 sU du=>?_⟩
  obtain ⟨pk,rfl,hpk⟩:=h7 du
  have t4:=t3.same sU.hh
  have vo:=oj.same sU.hh
  refine ⟨pk,_,rfl,.inl (eS.of (sU.fh _ _ hpk)),fun z' XQ=>?_⟩
  obtain ⟨m1,m2,m3,m4,m5⟩:=t4.new XQ
  have YK:=d8 XQ (.lst (vL g.clues.flatten))
  have t5:=t4.same YK
  obtain ⟨dx,gs,y1,y2,y3,y4,y5,y6,y7⟩:=t5.ex
  refine ⟨_,rfl,A,C,dx,gs,rfl,y1,W.T.cl,W.T.clues,by omega,?_⟩
  have t6:=t5.u5 y1 aK m1 ⟨m2,m4,m5⟩
  have IG:=(vo.same YK).fk (p:=z') (.inr (vo.zQ _ XQ)) (.ins C dx (cX "clues" (.ref z') gs))
  have eg:({ { a.now with town:=g.town } with clues:=g.clues }:ae)=g:=by
   cases g
   simp only at YJ
   rw [YJ]
  have t7:TS K C F0 _ A _ { a with now:=({ { a.now with town:=g.town } with clues:=g.clues }:ae) }:=t6
  rw [eg] at t7
  exact q _ _ t7 IG
end Dbring
namespace Drem
def nN:List Str:=["town","before"]
abbrev sS:Stmt:=top 65
theorem sc:aR nN nN (ai sS):=⟨rfl,rfl,rfl,by decide +kernel,rfl,by decide +kernel,by decide +kernel⟩
theorem ok (F:pG K "remember" "remember" sS f fd) (W:Wd K mg C) (p:Ps ⟨P,w,K,mg,base,k⟩):eI P w K mg base ia (k+1) f fd nN (II K C):=by
 refine F.ok sc (fun vs H Q E h=>?_) (fun eU A0 outer s H vs Q E hr h=>?_)
 ·obtain ⟨_,_,_,_,_,_,rfl,_⟩:=h
  rfl
 ·obtain ⟨A,v,F0,ow,a,g,rfl,t,dv,hu,q⟩:=h
  have G:Good (gY ia P w K mg base nN "remember" (ai sS) f eU A0 outer s H E).qC k:=⟨hr,rfl,sc.nd,W.bl⟩
  refine ⟨_,aE (iT (sM PySem.F.plainAttrs_list PySem.F.slot_list_append PySem.F.type_list_append nR (jL (pv 0) rfl) (bp (pv 1) cx)))
   (aE (fw (mT (.op .gt (.un .len (.fld (.var 0) "earlier")) (.gl "MOST_CHANGES" (.int 20)))) (br (iT (sM PySem.F.plainAttrs_list PySem.F.slot_list_pop PySem.F.type_list_pop KQ (jL (pv 0) rfl) (bp rR cx)))) c_)
   (br (eH (pv 0) (mF .nil) rfl))),?_⟩
  have hz:(1000:Nat)≤sizeLine:=by decide
  obtain ⟨vs,he,hd⟩:=t.he
  have M6:vs.length=a.undo.length:=by have:=bM hd;rw [af,a7] at this;exact this.symm
  obtain ⟨dx,gs,y1,y2,y3,y4,y5,y6,y7⟩:=t.ex
  refine ⟨_,rfl,A,C,dx,gs,.ref ow.e,rfl,y1,W.T.cl,W.T.km,y5,.inl ⟨rfl,_,eS.of he⟩,_,rfl,ow.e,_,_,rfl,rfl,he,by omega,?_⟩
  have YL:cG K F0 ((g::a.undo).reverse.map mD) (vs++[v]):=by
   rw [dQ,bo]
   exact jl hd (bB dv bU)
  have t1:=t.Ol (g::a.undo) YL
  have nO:jZ A F0 H ow F0 _ ow:=jZ.refl.put (.inr (.inr (.inr (.inl rfl)))) (.lst (vs++[v]))
  obtain ⟨dx,gs,y1,y2,y3,y4,y5,y6,y7⟩:=t1.ex
  refine gj (ρ:=[some (eD "earlier" (vs++[v]).length),none]) (aA (Fi y1 W.T.cl W.T.km y5 aK (by simp;omega)) (ak aI)) (bu (fC (cv (ah rfl) (Fh _ _)) (oJ _)) bW (i9 (b:=20))) fun H2 s2=>?_
  have t2:=t1.same s2
  have q_:=nO.same s2
  have fin:∀{H3:Hp} {u:List ae},TS K C F0 H3 A ow { a with undo:=u }→jZ A F0 H ow F0 H3 ow→u=(g::a.undo).take 20→Nv K (rQ 0) (J8 K (jO .nil)) "later" { nx:=fun _ H'=>Q .gg H',rt:=Q } [some (.ref A),some v] H3:=fun {H3 u} t3 oj hu3=>by
   refine jg (ρ:=[none,none]) (ak (ak aI)) aJ fun z us H4 s4 nz VC _ dl=>?_
   obtain rfl:=bL dl
   have t4:=t3.same s4
   obtain ⟨n1,n2,n3,n4,n5⟩:=t3.new nz
   obtain ⟨dx,gs,y1,y2,y3,y4,y5,y6,y7⟩:=t4.ex
   refine ⟨_,rfl,A,C,dx,gs,rfl,y1,W.T.cl,W.T.later,by omega,?_⟩
   subst hu3
   exact q _ _ (t4.Po y1 VC n1 ⟨n2,n3,n4⟩) ((oj.same s4).fl (p:=z) (.inr (oj.zQ _ nz)) (.ins C dx (cX "later" (.ref z) gs)))
  by_cases hb:20 < (vs++[v]).length
  ·rw [decide_eq_true hb,if_pos rfl]
   have h21:(g::a.undo).length=21:=by rw [ax,M6] at hb;have:a.undo.length+1 > 20:=hb;rw [ay];omega
   obtain ⟨dx,gs,y1,y2,y3,y4,y5,y6,y7⟩:=t2.ex
   have YM:H2 ow.e=some (.lst (vs++[v])):=s2 _ _ aK
   obtain ⟨y,hy⟩:∃y,(vs++[v])[0]?=some y:=⟨_,au (by omega)⟩
   refine ⟨_,rfl,A,C,dx,gs,.ref ow.e,rfl,y1,W.T.cl,W.T.km,y5,.inl ⟨rfl,_,eS.of YM⟩,ow.e,_,0,0,y,rfl,rfl,YM,by decide,by decide,?_,hy,?_⟩
   ·exact (B4 (by unfold MV;rw [if_pos (by omega),if_pos (by omega)];rfl)).1
   ·have UH:cG K F0 (((g::a.undo).take 20).reverse.map mD) ((vs++[v]).eraseIdx 0):=by
     rw [List.reverse_take,h21,List.eraseIdx_zero,←List.drop_one,pA]
     exact uv 1 YL
    exact fin (t2.Ol _ UH) (q_.put (.inr (.inr (.inr (.inl rfl)))) _) rfl
  ·rw [decide_eq_false hb,if_neg (by decide)]
   refine fin t2 q_ ?_
   rw [dR]
   rw [ax,M6] at hb
   rw [ay]
   have:¬a.undo.length+1 > 20:=hb
   omega
end Drem
namespace Dback
def nN:List Str:=["town"]
abbrev sS:Stmt:=top 66
theorem sc:aR nN nN (ai sS):=⟨rfl,rfl,rfl,by decide +kernel,rfl,by decide +kernel,by decide +kernel⟩
def res (a:aD):aD×aT:=match a.undo with
 | g::l=>((⟨g,l,a.now::a.redo⟩:aD),aw l.length)
 | []=>(a,aw (-2))
theorem ok (F:pG K "answer_back" "answer_back" sS f fd) (W:Wd K mg C) (p:Ps ⟨P,w,K,mg,base,k⟩) (hm:qQ ⟨P,w,K,mg,base,k⟩ "moment_of" ["town"] (Fg K C)) (hb:qQ ⟨P,w,K,mg,base,k⟩ "bring_to" ["town","moment"] (Ou K C)):eI P w K mg base ia (k+1) f fd nN (VB K C res):=by
 refine F.ok sc (fun vs H Q E h=>?_) (fun eU A0 outer s H vs Q E hr h=>?_)
 ·obtain ⟨_,_,_,_,rfl,_⟩:=h
  rfl
 ·obtain ⟨A,F0,ow,a,rfl,t,wf,q⟩:=h
  have G:Good (gY ia P w K mg base nN "answer_back" (ai sS) f eU A0 outer s H E).qC k:=⟨hr,rfl,sc.nd,W.bl⟩
  refine ⟨_,aE (fw (mT (.op .eq (.un .len (.fld (.var 0) "earlier")) (.int 0))) (br (b5 (mF (x1 VA)))) c_)
   (aE (iT (sM PySem.F.plainAttrs_list PySem.F.slot_list_append PySem.F.type_list_append nR (jL (pv 0) rfl) (bp (mC hm (bp (pv 0) cx)) cx)))
   (aE (iT (mC hb (bp (pv 0) (bp (KL PySem.F.plainAttrs_list PySem.F.slot_list_pop PySem.F.type_list_pop KP (jL (pv 0) rfl)) cx))))
   (br (b5 (mF (x1 (.un .len (.fld (.var 0) "earlier")))))))),?_⟩
  have hz:(1000:Nat)≤sizeLine:=by decide
  have we:=wf.we
  obtain ⟨vs,he,hd⟩:=t.he
  have M6:vs.length=a.undo.length:=by have:=bM hd;rw [af,a7] at this;exact this.symm
  obtain ⟨dx,gs,y1,y2,y3,y4,y5,y6,y7⟩:=t.ex
  refine gj (ρ:=[some (eD "earlier" vs.length)]) (aA (Fi y1 W.T.cl W.T.km y5 he (by omega)) aI) (bu (fC (cv (ah rfl) (Fh _ _)) (oJ _)) bb (fA (b:=0))) fun H1 s1=>?_
  have t1:=t.same s1
  have nO:jZ A F0 H ow F0 H1 ow:=jZ.refl.same s1
  cases hU:a.undo with
  | nil =>
   rw [hU] at M6
   rw [decide_eq_true (show vs.length=0 from M6),if_pos rfl]
   have ee:res a=(a,aw (-2)):=by unfold res;rw [hU]
   rw [ee] at q
   exact jg (ρ:=[none]) (ak aI) (ao bW aJ) fun p vs H2 s2 np hp _ dl=>gF t1 nO s2 np hp dl rfl (by show 1≤_;omega) q
  | cons g l =>
   rw [hU,ay] at M6
   rw [decide_eq_false (show ¬vs.length=0 by omega),if_neg (by decide)]
   have ee:res a=((⟨g,l,a.now::a.redo⟩:aD),aw l.length):=by unfold res;rw [hU]
   rw [ee] at q
   obtain ⟨dx,gs,y1,y2,y3,y4,y5,y6,y7⟩:=t1.ex
   have hold:cP g∧g.n=a.now.n:=wf.old g (by rw [bE,hU];simp)
   rw [hU] at we
   have we:l.length+1+a.redo.length≤20:=we
   obtain ⟨us,R6,Pa⟩:=t1.hl
   have hul:us.length=a.redo.length:=by have:=bM Pa;rw [af,a7] at this;exact this.symm
   refine ⟨_,rfl,A,C,dx,gs,.ref ow.l,rfl,y1,W.T.cl,W.T.later,y6,.inl ⟨rfl,_,eS.of R6⟩,?_⟩
   refine ⟨_,rfl,A,F0,ow,a,rfl,t1,wf.now,fun v F2 H2 ex dv=>?_⟩
   have t2:=t1.ext ex
   have q_:=nO.ext ex
   refine ⟨ow.l,_,_,rfl,rfl,ex.hh _ _ R6,by omega,?_⟩
   have UH:cG K F2 ((a.now::a.redo).reverse.map mD) (us++[v]):=by
    rw [dQ,bo]
    exact jl (cD ex.ff _ _ Pa) (bB dv bU)
   have t3:=t2.UB (a.now::a.redo) UH
   have oj:=q_.put (b:=ow.l) (.inr (.inr (.inr (.inr rfl)))) (.lst (us++[v]))
   obtain ⟨XR,UI,Rq⟩:=t3.he
   have UJ:cG K F2 (a.undo.reverse.map mD) XR:=Rq
   rw [hU,dQ,bo] at UJ
   obtain ⟨XS,y,rfl,d5,d6⟩:=u_ UJ
   obtain ⟨dx,gs,y1,y2,y3,y4,y5,y6,y7⟩:=t3.ex
   refine ⟨_,rfl,_,rfl,A,C,dx,gs,.ref ow.e,rfl,y1,W.T.cl,W.T.km,y5,.inl ⟨rfl,_,eS.of UI⟩,ow.e,_,y,rfl,rfl,UI,by simp,?_⟩
   rw [Kc]
   have t5:=t3.Ol l d5
   have uh:=oj.put (b:=ow.e) (.inr (.inr (.inr (.inl rfl)))) (.lst XS)
   refine ⟨A,y,F2,ow,_,g,rfl,t5,d6,hold.1,hold.2,fun H6 w6 t6 IG=>?_⟩
   have Gd:=uh.trans IG
   obtain ⟨UK,XT,XU⟩:=t6.he
   have Rr:UK.length=l.length:=by have:=bM XU;rw [af,a7] at this;exact this.symm
   obtain ⟨dx,gs,y1,y2,y3,y4,y5,y6,y7⟩:=t6.ex
   have t7:TS K C F2 H6 A w6 (⟨g,l,a.now::a.redo⟩:aD):=t6
   exact jg (ρ:=[some (eD "earlier" UK.length)]) (aA (Fi y1 W.T.cl W.T.km y5 XT (by omega)) aI) (ao (fC (cv (ah rfl) (Fh _ _)) (oJ _)) aJ) fun p vs H8 s8 np hp _ dl=>gF t7 Gd s8 np hp dl (by rw [Rr];rfl) (by show 1≤_;omega) q
end Dback
namespace Dagain
def nN:List Str:=["town"]
abbrev sS:Stmt:=top 67
theorem sc:aR nN nN (ai sS):=⟨rfl,rfl,rfl,by decide +kernel,rfl,by decide +kernel,by decide +kernel⟩
def res (a:aD):aD×aT:=match a.redo with
 | g::l=>((⟨g,(a.now::a.undo).take DB,l⟩:aD),aw l.length)
 | []=>(a,aw (-2))
theorem ok (F:pG K "answer_again" "answer_again" sS f fd) (W:Wd K mg C) (p:Ps ⟨P,w,K,mg,base,k⟩) (hm:qQ ⟨P,w,K,mg,base,k⟩ "moment_of" ["town"] (Fg K C)) (hb:qQ ⟨P,w,K,mg,base,k⟩ "bring_to" ["town","moment"] (Ou K C)):eI P w K mg base ia (k+1) f fd nN (VB K C res):=by
 refine F.ok sc (fun vs H Q E h=>?_) (fun eU A0 outer s H vs Q E hr h=>?_)
 ·obtain ⟨_,_,_,_,rfl,_⟩:=h
  rfl
 ·obtain ⟨A,F0,ow,a,rfl,t,wf,q⟩:=h
  have G:Good (gY ia P w K mg base nN "answer_again" (ai sS) f eU A0 outer s H E).qC k:=⟨hr,rfl,sc.nd,W.bl⟩
  refine ⟨_,aE (fw (mT (.op .eq (.un .len (.fld (.var 0) "later")) (.int 0))) (br (b5 (mF (x1 VA)))) c_)
   (aE (iT (sM PySem.F.plainAttrs_list PySem.F.slot_list_append PySem.F.type_list_append nR (jL (pv 0) rfl) (bp (mC hm (bp (pv 0) cx)) cx)))
   (aE (iT (mC hb (bp (pv 0) (bp (KL PySem.F.plainAttrs_list PySem.F.slot_list_pop PySem.F.type_list_pop KP (jL (pv 0) rfl)) cx))))
   (br (b5 (mF (x1 (.un .len (.fld (.var 0) "later")))))))),?_⟩
  have hz:(1000:Nat)≤sizeLine:=by decide
  have we:=wf.we
  obtain ⟨vs,he,hd⟩:=t.hl
  have M6:vs.length=a.redo.length:=by have:=bM hd;rw [af,a7] at this;exact this.symm
  obtain ⟨dx,gs,y1,y2,y3,y4,y5,y6,y7⟩:=t.ex
  refine gj (ρ:=[some (eD "later" vs.length)]) (aA (Fi y1 W.T.cl W.T.later y6 he (by omega)) aI) (bu (fC (cv (ah rfl) (Fh _ _)) (oJ _)) bb (fA (b:=0))) fun H1 s1=>?_
  have t1:=t.same s1
  have nO:jZ A F0 H ow F0 H1 ow:=jZ.refl.same s1
  cases hU:a.redo with
  | nil =>
   rw [hU] at M6
   rw [decide_eq_true (show vs.length=0 from M6),if_pos rfl]
   have ee:res a=(a,aw (-2)):=by unfold res;rw [hU]
   rw [ee] at q
   exact jg (ρ:=[none]) (ak aI) (ao bW aJ) fun p vs H2 s2 np hp _ dl=>gF t1 nO s2 np hp dl rfl (by show 1≤_;omega) q
  | cons g l =>
   rw [hU,ay] at M6
   rw [decide_eq_false (show ¬vs.length=0 by omega),if_neg (by decide)]
   have ee:res a=((⟨g,(a.now::a.undo).take DB,l⟩:aD),aw l.length):=by unfold res;rw [hU]
   rw [ee] at q
   obtain ⟨dx,gs,y1,y2,y3,y4,y5,y6,y7⟩:=t1.ex
   have hold:cP g∧g.n=a.now.n:=wf.old g (by rw [bE,hU];simp)
   rw [hU] at we
   have we:a.undo.length+(l.length+1)≤20:=we
   obtain ⟨us,R6,Pa⟩:=t1.he
   have hul:us.length=a.undo.length:=by have:=bM Pa;rw [af,a7] at this;exact this.symm
   refine ⟨_,rfl,A,C,dx,gs,.ref ow.e,rfl,y1,W.T.cl,W.T.km,y5,.inl ⟨rfl,_,eS.of R6⟩,?_⟩
   refine ⟨_,rfl,A,F0,ow,a,rfl,t1,wf.now,fun v F2 H2 ex dv=>?_⟩
   have t2:=t1.ext ex
   have q_:=nO.ext ex
   refine ⟨ow.e,_,_,rfl,rfl,ex.hh _ _ R6,by omega,?_⟩
   have UH:cG K F2 ((a.now::a.undo).reverse.map mD) (us++[v]):=by
    rw [dQ,bo]
    exact jl (cD ex.ff _ _ Pa) (bB dv bU)
   have t3:=t2.Ol (a.now::a.undo) UH
   have oj:=q_.put (b:=ow.e) (.inr (.inr (.inr (.inl rfl)))) (.lst (us++[v]))
   obtain ⟨XR,UI,Rq⟩:=t3.hl
   have UJ:cG K F2 (a.redo.reverse.map mD) XR:=Rq
   rw [hU,dQ,bo] at UJ
   obtain ⟨XS,y,rfl,d5,d6⟩:=u_ UJ
   obtain ⟨dx,gs,y1,y2,y3,y4,y5,y6,y7⟩:=t3.ex
   refine ⟨_,rfl,_,rfl,A,C,dx,gs,.ref ow.l,rfl,y1,W.T.cl,W.T.later,y6,.inl ⟨rfl,_,eS.of UI⟩,ow.l,_,y,rfl,rfl,UI,by simp,?_⟩
   rw [Kc]
   have t5:=t3.UB l d5
   have uh:=oj.put (b:=ow.l) (.inr (.inr (.inr (.inr rfl)))) (.lst XS)
   refine ⟨A,y,F2,ow,_,g,rfl,t5,d6,hold.1,hold.2,fun H6 w6 t6 IG=>?_⟩
   have Gd:=uh.trans IG
   obtain ⟨UK,XT,XU⟩:=t6.hl
   have Rr:UK.length=l.length:=by have:=bM XU;rw [af,a7] at this;exact this.symm
   obtain ⟨dx,gs,y1,y2,y3,y4,y5,y6,y7⟩:=t6.ex
   have t7:TS K C F2 H6 A w6 (⟨g,(a.now::a.undo).take DB,l⟩:aD):=by rw [dR (by rw [ay];show _≤20;omega)];exact t6
   exact jg (ρ:=[some (eD "later" UK.length)]) (aA (Fi y1 W.T.cl W.T.later y6 XT (by omega)) aI) (ao (fC (cv (ah rfl) (Fh _ _)) (oJ _)) aJ) fun p vs H8 s8 np hp _ dl=>gF t7 Gd s8 np hp dl (by rw [Rr];rfl) (by show 1≤_;omega) q
end Dagain
end
end Tn
namespace Tn
open PySem PySem.Spec PyProof.Rows L2 Mi
def kR (a:aD) (n:Nat) (b:List Nat):aD×aT:=if n < 1∨4 < n then (a,aw (-22)) else match eO n b with
 | some x=>(⟨⟨n,x.1,x.2⟩,[],[]⟩,aw (aB x.1))
 | none=>(a,aw (-71))
def IJ (K:aa) (C:Addr):Sp:=fun vs H Q _=>∃(A tp:Addr) (F:Hp) (w:Own) (a:aD) (n:Nat) (b:List Nat),vs=[.ref A,.int n,.ref tp]∧TS K C F H A w a∧H tp=some (.lst (vL b))∧F tp=none∧¬w.has A tp∧b.length≤100 ∧
 ∀v F' H' w',TS K C F' H' A w' (kR a n b).1→iR A F H (fun x=>w.has A x∨x=tp) F' H' w'→Den K F' (dq (kR a n b).2) v→Q v H'
noncomputable def part (p:Addr→Prop) (H:Hp):Hp:=fun b=>open Classical in if p b then H b else none
theorem gN {p:Addr→Prop} {H:Hp}:bT (part p H) H:=fun b o e=>by
 unfold part at e
 split at e
 ·exact e
 ·cases e
theorem xu {p:Addr→Prop} {H:Hp} {b:Addr} {o:HO} (h:part p H b=some o):p b:=by
 unfold part at h
 split at h
 ·assumption
 ·cases h
theorem oQ {p:Addr→Prop} {H:Hp} {b:Addr} (h:p b):part p H b=H b:=if_pos h
theorem Ext.from {F H F' H':Hp} (e:Ext F H F' H') {p:Addr} {o:HO} (h:F' p=some o):F p=some o∨H p=none:=by
 cases hh:H p with
 | none=>exact .inr rfl
 | some o' =>
  cases hf:F p with
  | none=>rw [e.nw p hf (by rw [hh];exact fun z=>nomatch z)] at h;cases h
  | some o''=>have:=e.ff _ _ hf;rw [h] at this;exact .inl this.symm
theorem Mt {K:aa} {F:Hp}:∀{L:List (List Nat)} {us:List V},cG K F (L.map iL) us→∀(p:Addr→Prop),(∀b,V.ref b∈us→p b)→cG K (part p F) (L.map iL) us
 | [],us,h,p,_=>by rw [bL h];exact bU
 | l::L,us,h,p,hp=>by
  obtain ⟨v,r,rfl,h1,h2⟩:=bJ h
  obtain ⟨z,b,vs,rfl,h3,h4⟩:=dd h1
  refine bB (f9 z (by rw [oQ (hp b (by simp))];exact h3) ?_) (Mt h2 p fun b hb=>hp b (by simp [hb]))
  rw [qo h4]
  exact mn l
theorem BM {K:aa} {F:Hp}:∀{L:List (List Nat)} {us:List V} {b:Addr},cG K F (L.map iL) us→V.ref b∈us→∃l∈L,F b=some (.lst (vL l))
 | [],us,b,h,hb=>by rw [bL h] at hb;simp at hb
 | l::L,us,b,h,hb=>by
  obtain ⟨v,r,rfl,h1,h2⟩:=bJ h
  rcases aF.mp hb with rfl|hb
  ·obtain ⟨p,e,hp⟩:=h7 h1
   cases e
   exact ⟨l,by simp,hp⟩
  ·obtain ⟨m,hm,e⟩:=BM h2 hb
   exact ⟨m,by simp [hm],e⟩
theorem Fj {K:aa} {H:Hp}:∀{l:List Int} {vs:List V},cG K H (l.map .int) vs→vs=l.map V.int
 | [],vs,h=>bL h
 | x::l,vs,h=>by
  obtain ⟨v,r,rfl,h1,h2⟩:=bJ h
  rw [bD h1,Fj h2];rfl
theorem IK {K:aa} {H:Hp} {l:List Int} {v:V} (h:Den K H (GK l) v):∃p,v=.ref p∧H p=some (.lst (l.map V.int)):=by
 obtain ⟨_,p,vs,rfl,h1,h2⟩:=dd h
 rw [Fj h2] at h1
 exact ⟨p,rfl,h1⟩
theorem Fl:∀l:List Int,intsOf (l.map .int)=some l
 | []=>rfl
 | x::l=>by rw [aN,intsOf,Fl l];rfl
theorem Mu {x:Int} {l:List Int}:iA .isin (.int x) (GK l)=some (.bl (decide (x∈l))):=by
 show ((intsOf (l.map .int)).bind fun y=>some (decide (x∈y))).bind (fun c=>some (D.bl c))=_
 rw [Fl];rfl
theorem Mv {H:Hp} {A p C dx:Addr} {gs:List (Str×V)} {l:List V} {o:HO} (h:H A=some (.ins C dx gs)) (hp:H p=some (.lst l)):upd H A o p=some (.lst l):=by
 rw [aM (nQ hp h fun e=>nomatch e)];exact hp
section
variable {P:Program} {w:World} {K:aa} {mg:Str→Option Value} {base:Heap} {C:Addr} {k:Nat} {f:Addr} {fd:FuncData}
namespace Dstart
def nN:List Str:=["town","n","text","lines","cells","clues"]
def pP:List Str:=["town","n","text"]
abbrev sS:Stmt:=top 86
theorem sc:aR nN pP (ai sS):=⟨rfl,rfl,rfl,by decide +kernel,rfl,by decide +kernel,by decide +kernel⟩
abbrev YN:E:=.gl "NO_TOWN" (.int (-71))
theorem ok (F:pG K "answer_start" "answer_start" sS f fd) (W:Wd K mg C) (p:Ps ⟨P,w,K,mg,base,k⟩):eI P w K mg base ia (k+1) f fd pP (IJ K C):=by
 refine F.ok sc (fun vs H Q E h=>?_) (fun eU A0 outer s H vs Q E hr h=>?_)
 ·obtain ⟨_,_,_,_,_,_,_,rfl,_⟩:=h
  rfl
 ·obtain ⟨A,tp,F0,ow,a,n,b,rfl,t,htp,ftp,otp,hb,q⟩:=h
  have G:Good (gY ia P w K mg base nN "answer_start" (ai sS) f eU A0 outer s H E).qC k:=⟨hr,rfl,sc.nd,W.bl⟩
  refine ⟨_,aE (fw (mT (.or (x2 (.op .lt (.var 1) (.int 1)) (.op .gt (.var 1) (.gl "HIGHEST_SIZE" (.int 4)))))) (br (b5 (mF (x1 Vz)))) c_)
   (aE (dh (i:=3) sc.nd rfl (Or.inl rfl) (mE (.call "text_lines" jv (x1 (.var 2)))))
   (aE (fw (mT (.not (.call "has_form" mf (x2 (.var 1) (.var 3))))) (br (b5 (mF (x1 YN)))) c_)
   (aE (dh (i:=4) sc.nd rfl (Or.inl rfl) (mE (.call "read_cells" jx (x2 (.var 1) (.var 3)))))
   (aE (dh (i:=5) sc.nd rfl (Or.inl rfl) (mE (.call "read_clues" jy (x2 (.var 1) (.var 3)))))
   (aE (fw (mT (.or (x2 (.op .isin (.gl "NO_SIGN" (.int (-1))) (.var 4)) (.op .isin (.gl "NO_SIGN" (.int (-1))) (.var 5))))) (br (b5 (mF (x1 YN)))) c_)
   (aE (eH (pv 0) (pv 1) rfl) (aE (eH (pv 0) (pv 4) rfl) (aE (eH (pv 0) (pv 5) rfl)
   (aE (eH (pv 0) (mF .nil) rfl) (aE (eH (pv 0) (mF .nil) rfl)
   (br (b5 (mF (x1 (.call "count_towers" fj (x1 (.var 0))))))))))))))))),?_⟩
  have hz:(1:Nat)≤sizeLine:=by decide
  have UL:∀{H1:Hp} {x1 x2 x3 x4 x5 x6:Option V},Slots K H1 [x1,x2,x3,x4,x5,x6] [none,none,none,none,none,none]:=ak (ak (ak (ak (ak (ak aI)))))
  refine gj (ρ:=[none,some (iN n),none,none,none,none]) (ak (aA (bO _) (ak (ak (ak (ak aI)))))) (By (bu (ah rfl) bb (Ep (b:=1))) fun _=>bu (ah rfl) bW (i9 (b:=4))) fun H1 s1=>?_
  have t1:=t.same s1
  have nO:iR A F0 H (fun x=>ow.has A x∨x=tp) F0 H1 ow:=⟨fun b o h _=>s1 _ _ h,fun b h=>same_none s1 h,same_refl F0,fun _ h _=>h,fun b h=>.inl (.inl h)⟩
  by_cases hn:n < 1∨4 < n
  ·have eb:(decide (n < 1)||decide (4 < n))=true:=by simp only [cZ,decide_eq_true_eq];exact hn
   rw [eb,if_pos rfl]
   have ee:kR a n b=(a,aw (-22)):=if_pos hn
   rw [ee] at q
   exact jg UL (ao bW aJ) fun p vs H2 s2 np hp _ dl=>gF t1 nO s2 np hp dl rfl hz q
  ·have eb:(decide (n < 1)||decide (4 < n))=false:=by rw [o8];simp only [ne_eq,cZ,decide_eq_true_eq];exact hn
   rw [eb,if_neg (by decide)]
   have n1:1≤n:=by omega
   have n4:n≤4:=by omega
   refine ⟨part (·=tp) H1,[none,none,some (iL b),none,none,none],_,gN,ak (ak (aA (nJ ((oQ rfl).trans (s1 _ _ htp)) (by omega)) (ak (ak (ak aI))))),aL §1 (Ad (by omega)),fun v F2 H2 iE dv=>?_⟩
   have t2:=t1.same iE.hh
   have q_:=nO.same iE.hh
   generalize hL:fq b=L at dv
   obtain ⟨hz3,p3,us,rfl,h3,d3⟩:=dd dv
   let FL:Hp:=part (fun x=>x=p3∨V.ref x∈us) F2
   have dL:Den K FL (g9 L) (.ref p3):=f9 hz3 ((oQ (.inl rfl)).trans h3) (Mt d3 _ fun b hb=>.inr hb)
   have XW:bT FL H2:=gN.trans iE.fh
   have sl:∀{G:Hp} {o5 o6:Option V},bT FL G→Slots K G [some (.ref A),some (.int n),some (.ref tp),some (.ref p3),o5,o6] [none,some (iN n),none,some (g9 L),none,none]:=fun sm=>ak (aA (bO _) (ak (aA (cT sm _ _ dL) (ak (ak aI)))))
   refine gj (sl XW) (vB (aL §2 (EM n4))) fun H3 s3=>?_
   have t3:=t2.same s3
   have oj:=q_.same s3
   cases XX:qf n L with
   | false =>
    rw [Bool.not_false,if_pos rfl]
    have ee:kR a n b=(a,aw (-71)):=by
     unfold kR
     rw [if_neg hn,CG (L:=L) (n:=n) hL.symm fun h=>by rw [XX] at h;cases h.1]
    rw [ee] at q
    exact jg UL (ao bW aJ) fun p vs H4 s4 np hp _ dl=>gF t3 oj s4 np hp dl rfl hz q
   | true =>
    rw [Bool.not_true,if_neg (by decide)]
    have hF:Form n L:=by
     have:=XX
     unfold qf at this
     rw [ag,decide_eq_true_eq] at this
     exact (tH n L).mp this.1
    refine ⟨FL,_,_,XW.trans s3,sl (same_refl FL),aL §2 (Af n4 hF),fun v4 F4 H4 sU YO=>?_⟩
    obtain ⟨p4,rfl,JT⟩:=IK YO
    have t4:=t3.same sU.hh
    have vo:=oj.same sU.hh
    refine ⟨FL,_,_,(XW.trans s3).trans sU.hh,sl (same_refl FL),aL §2 (Ah n4 hF),fun v5 F5 H5 Lg YQ=>?_⟩
    obtain ⟨p5,rfl,YR⟩:=IK YQ
    have t5:=t4.same Lg.hh
    have uh:=vo.same Lg.hh
    have h4:H5 p4=some (.lst ((i4 n L).map V.int)):=Lg.hh _ _ (sU.fh _ _ JT)
    have h5:H5 p5=some (.lst (((eG n L).map (sgn n)).map V.int)):=Lg.fh _ _ YR
    refine gj (ρ:=[none,none,none,none,some (GK (i4 n L)),some (GK ((eG n L).map (sgn n)))]) (ak (ak (ak (ak (aA (cT (sU.fh.trans Lg.hh) _ _ YO) (aA (cT Lg.fh _ _ YQ) aI)))))) (By (bu bW (ah rfl) Mu) fun _=>bu bW (ah rfl) Mu) fun H6 s6=>?_
    have t6:=t5.same s6
    have IG:=uh.same s6
    by_cases hg:vG n L=true
    ·have YS:=(tK hF).mp hg
     rw [decide_eq_false YS.1,decide_eq_false YS.2,Bool.or_false,if_neg (by decide)]
     obtain ⟨x,hx,ec,ek,VD⟩:=ES n1 n4 hL.symm XX hg
     have ee:kR a n b=(⟨⟨n,x.1,x.2⟩,[],[]⟩,aw (aB x.1)):=by
      unfold kR
      rw [if_neg hn,hx]
     rw [ee] at q
     have ez:∀l:List Nat,(l.map fun a:Nat=>(a:Int)).map V.int=vL l:=fun l=>by unfold vL;rw [a8];rfl
     rw [ec,ez] at h4
     rw [ek,ez] at h5
     have UM:∀{o:HO},F4 p4=some o→(ow.has A p4∨p4=tp)∨H p4=none:=fun {o} e=>by
      rcases Ext.from sU e with e|e
      ·have e2:F2 p4=some o:=gN _ _ e
       rcases Ext.from iE e2 with e3|e3
       ·have e4:(fun x=>x=tp) p4:=xu (p:=fun x=>x=tp) e3
        exact .inl (.inr e4)
       ·exact .inr (nO.zQ _ e3)
      ·exact .inr (oj.zQ _ e)
     have o4:=UM JT
     have Rt:H4 p5=none:=by
      rcases Ext.from Lg YR with e|e
      ·exfalso
       have UN:(((eG n L).map (sgn n)).map V.int).length=4*n:=by
        rw [ek,ez,eu]
        exact (cP.GW VD).2.1
       rcases xu e with e1|e1
       ·subst e1
        have e2:=gN _ _ e
        rw [h3] at e2
        injection e2 with e2
        injection e2 with e2
        have:us.length=n+2:=by have:=bM d3;rw [af,hF.1] at this;exact this.symm
        rw [e2,UN] at this
        omega
       ·obtain ⟨l,hl,e2⟩:=BM d3 e1
        rw [gN _ _ e] at e2
        injection e2 with e2
        injection e2 with e2
        rw [e2,eu,hF.2 l hl] at UN
        omega
      ·exact e
     have h45:p4≠p5:=fun e=>by rw [e] at JT;have:=sU.fh _ _ JT;rw [Rt] at this;cases this
     have s5H:H p5=none:=vo.zQ _ Rt
     obtain ⟨m1,m2,m3,m4,m5⟩:=t4.new Rt
     have UO:F0 p4=none∧p4≠ow.k∧p4≠ow.e∧p4≠ow.l:=by
      have Jg:∀x,ow.has A x→x=p4→F4 p4=some (.lst ((i4 n L).map V.int))→False:=fun x hx e hq=>by
       subst e
       rcases Ext.from sU hq with e|e
       ·rcases Ext.from iE (gN _ _ e) with e3|e3
        ·have e4:(fun y=>y=tp) x:=xu (p:=fun x=>x=tp) e3
         have e4:x=tp:=e4
         exact otp (e4▸hx)
        ·exact t1.has hx e3
       ·exact t3.has hx e
      refine ⟨?_,fun e=>Jg _ (.inr (.inr (.inl rfl))) e.symm JT,fun e=>Jg _ (.inr (.inr (.inr (.inl rfl)))) e.symm JT,fun e=>Jg _ (.inr (.inr (.inr (.inr rfl)))) e.symm JT⟩
      rcases o4 with (e|e)|e
      ·exact t.nf _ e
      ·rw [e];exact ftp
      ·exact same_none t.fh e
     obtain ⟨dx,gs,y1,y2,y3,y4,y5,y6,y7⟩:=t6.ex
     refine ⟨_,rfl,_,rfl,A,C,dx,gs,rfl,y1,W.T.cl,W.T.n,by omega,?_⟩
     have t7:=t6.fn y1 n
     have Gd:=IG.put (.inl rfl) (.ins C dx (cX "n" (.int n) gs))
     have h47:upd H6 A (.ins C dx (cX "n" (.int n) gs)) p4=some (.lst (vL x.1)):=by rw [aM (nQ (s6 _ _ h4) y1 fun e=>nomatch e)];exact s6 _ _ h4
     have h57:upd H6 A (.ins C dx (cX "n" (.int n) gs)) p5=some (.lst (vL x.2.flatten)):=by rw [aM (nQ (s6 _ _ h5) y1 fun e=>nomatch e)];exact s6 _ _ h5
     obtain ⟨dx,gs,y1,y2,y3,y4,y5,y6,y7⟩:=t7.ex
     refine ⟨_,rfl,_,rfl,A,C,dx,gs,rfl,y1,W.T.cl,W.T.cells,by omega,?_⟩
     have t8:=t7.so y1 h47 UO.1 UO.2
     have Pt:=Gd.fc (p:=p4) o4 (.ins C dx (cX "cells" (.ref p4) gs))
     have h58:=Mv (o:=.ins C dx (cX "cells" (.ref p4) gs)) y1 h57
     obtain ⟨dx,gs,y1,y2,y3,y4,y5,y6,y7⟩:=t8.ex
     refine ⟨_,rfl,_,rfl,A,C,dx,gs,rfl,y1,W.T.cl,W.T.clues,by omega,?_⟩
     have t9:=t8.u5 y1 h58 m1 ⟨h45.symm,m4,m5⟩
     have YT:=Pt.fk (p:=p5) (.inr s5H) (.ins C dx (cX "clues" (.ref p5) gs))
     change Nv K (rQ 0) (J8 K (jO .nil)) "earlier" _ [some (.ref A),some (.int n),some (.ref tp),some (.ref p3),some (.ref p4),some (.ref p5)] _
     refine jg UL aJ fun z aaR ZN WL nz Qx _ dl=>?_
     obtain rfl:=bL dl
     have Mw:=t9.same WL
     obtain ⟨k1,k2,k3,k4,k5⟩:=t9.new nz
     obtain ⟨dx,gs,y1,y2,y3,y4,y5,y6,y7⟩:=Mw.ex
     refine ⟨_,rfl,A,C,dx,gs,rfl,y1,W.T.cl,W.T.km,by omega,?_⟩
     have YU:=Mw.UC y1 Qx k1 ⟨k2,k3,k5⟩
     have UP:=(YT.same WL).fe (p:=z) (.inr (YT.zQ _ nz)) (.ins C dx (cX "earlier" (.ref z) gs))
     change Nv K (rQ 0) (J8 K (jO .nil)) "later" _ [some (.ref A),some (.int n),some (.ref tp),some (.ref p3),some (.ref p4),some (.ref p5)] _
     refine jg UL aJ fun z2 aaS H12 YV UQ XY _ dl=>?_
     obtain rfl:=bL dl
     have YW:=YU.same YV
     obtain ⟨k1,k2,k3,k4,k5⟩:=YU.new UQ
     obtain ⟨dx,gs,y1,y2,y3,y4,y5,y6,y7⟩:=YW.ex
     refine ⟨_,rfl,A,C,dx,gs,rfl,y1,W.T.cl,W.T.later,by omega,?_⟩
     have YX:=YW.Po y1 XY k1 ⟨k2,k3,k4⟩
     have XZ:=(UP.same YV).fl (p:=z2) (.inr (UP.zQ _ UQ)) (.ins C dx (cX "later" (.ref z2) gs))
     exact jg (ρ:=[some (tD ⟨n,x.1,x.2⟩),none,none,none,none,none]) (aA (YX.den W.T VD) (ak (ak (ak (ak (ak aI)))))) (ao (aL §1 kK) aJ) fun p vs H4 s4 np hp _ dl=>gF YX XZ s4 np hp dl rfl hz q
    ·have XI:(decide ((-1:Int)∈i4 n L)||decide ((-1:Int)∈(eG n L).map (sgn n)))=true:=by
      rw [cZ,decide_eq_true_eq,decide_eq_true_eq]
      by_cases h1:(-1:Int)∈i4 n L
      ·exact .inl h1
      ·by_cases h2:(-1:Int)∈(eG n L).map (sgn n)
       ·exact .inr h2
       ·exact absurd ((tK hF).mpr ⟨h1,h2⟩) hg
     rw [XI,if_pos rfl]
     have ee:kR a n b=(a,aw (-71)):=by
      unfold kR
      rw [if_neg hn,CG (L:=L) (n:=n) hL.symm fun h=>hg h.2]
     rw [ee] at q
     exact jg UL (ao bW aJ) fun p vs H4 s4 np hp _ dl=>gF t6 IG s4 np hp dl rfl hz q
end Dstart
end
end Tn
namespace Tn
open PySem PySem.Spec PyProof.Rows L2 Mi
structure Made (C:Addr) (H H':Hp) (p:Addr) (w:Own):Prop where
 ex:∃dx gs,H' p=some (.ins C dx gs)∧gs.lookup ("n" : Str)=some (.int (0:Nat))∧gs.lookup ("cells" : Str)=some (.ref w.c)∧gs.lookup ("clues" : Str)=some (.ref w.k)∧gs.lookup ("earlier" : Str)=some (.ref w.e)∧gs.lookup ("later" : Str)=some (.ref w.l)∧gs.length≤20
 c:H' w.c=some (.lst [])
 k:H' w.k=some (.lst [])
 e:H' w.e=some (.lst [])
 l:H' w.l=some (.lst [])
 nw:H w.c=none∧H w.k=none∧H w.e=none∧H w.l=none
 ap:w.Ap
 kp:∀b o,H b=some o→b≠p→H' b=some o
def GX (C:Addr):Sp:=fun vs H Q _=>∃(p dx:Addr),vs=[.ref p]∧H p=some (.ins C dx [])∧∀H' w,Made C H H' p w→Q .gg H'
def a0:aD:=⟨⟨0,[],[]⟩,[],[]⟩
theorem Made.town {K:aa} {C x dx:Addr} {F H H':Hp} {w:Own} (m:Made C (upd (upd H dx (.own x)) x (.ins C dx [])) H' x w) (hx:H x=none) (hd:H dx=none) (f:bT F H):TS K C F H' x w a0∧bT H H'∧∀b,w.has x b→H b=none:=by
 have sm:bT H H':=fun b o e=>m.kp b o (by rw [aM (bP e hx),aM (bP e hd)];exact e) (bP e hx)
 have nn:∀b,upd (upd H dx (.own x)) x (.ins C dx []) b=none→H b=none:=fun b e=>by
  by_cases h1:b=x
  ·subst h1;rw [aK] at e;cases e
  ·rw [aM h1] at e
   by_cases h2:b=dx
   ·subst h2;rw [aK] at e;cases e
   ·rw [aM h2] at e;exact e
 have own:∀b,w.has x b→H b=none:=fun b hb=>by
  rcases hb with rfl|rfl|rfl|rfl|rfl
  ·exact hx
  ·exact nn _ m.nw.1
  ·exact nn _ m.nw.2.1
  ·exact nn _ m.nw.2.2.1
  ·exact nn _ m.nw.2.2.2
 exact ⟨⟨m.ex,m.c,m.k,⟨_,m.e,bU⟩,⟨_,m.l,bU⟩,f.trans sm,fun b hb=>same_none f (own b hb),m.ap⟩,sm,own⟩
section
variable {P:Program} {w:World} {K:aa} {mg:Str→Option Value} {base:Heap} {C:Addr} {k:Nat} {f:Addr} {fd:FuncData}
namespace Dinit
def nN:List Str:=["self"]
abbrev sS:Stmt:=inClass (top 7) 0
theorem sc:aR nN nN (ai sS):=⟨rfl,rfl,rfl,by decide +kernel,rfl,by decide +kernel,by decide +kernel⟩
theorem ok (F:pG K "__init__" "Town.__init__" sS f fd) (T:oN K C):eI P w K mg base ia (k+1) f fd nN (GX C):=by
 refine F.ok sc (fun vs H Q E h=>?_) (fun eU A0 outer s H vs Q E hr h=>?_)
 ·obtain ⟨_,_,rfl,_⟩:=h
  rfl
 ·obtain ⟨p,dx,rfl,hp,q⟩:=h
  refine ⟨_,aE (eH (pv 0) rR rfl) (aE (eH (pv 0) (uk cx) rfl) (aE (eH (pv 0) (uk cx) rfl) (aE (eH (pv 0) (uk cx) rfl) (br (eH (pv 0) (uk cx) rfl))))),?_⟩
  have hz:(0:Nat)≤sizeLine:=c8 _
  have l0:([]:List (Str×V)).length=0:=rfl
  refine ⟨_,rfl,p,C,dx,[],rfl,hp,T.cl,T.n,by decide,?_⟩
  have g1:=gZ ("n" : Str) (.int 0) []
  refine ⟨hz,fun c nc=>⟨_,rfl,p,C,dx,cX "n" (.int 0) [],rfl,?_,T.cl,T.cells,by rw [l0] at g1;omega,?_⟩⟩
  ·rw [aM (bP aK nc),aK]
  have g2:=gZ ("cells" : Str) (.ref c) (cX "n" (.int 0) [])
  refine ⟨hz,fun d nd=>⟨_,rfl,p,C,dx,cX "cells" (.ref c) (cX "n" (.int 0) []),rfl,?_,T.cl,T.clues,by rw [l0] at g1;omega,?_⟩⟩
  ·rw [aM (bP aK nd),aK]
  have g3:=gZ ("clues" : Str) (.ref d) (cX "cells" (.ref c) (cX "n" (.int 0) []))
  refine ⟨hz,fun e ne=>⟨_,rfl,p,C,dx,cX "clues" (.ref d) (cX "cells" (.ref c) (cX "n" (.int 0) [])),rfl,?_,T.cl,T.km,by rw [l0] at g1;omega,?_⟩⟩
  ·rw [aM (bP aK ne),aK]
  have g4:=gZ ("earlier" : Str) (.ref e) (cX "clues" (.ref d) (cX "cells" (.ref c) (cX "n" (.int 0) [])))
  refine ⟨hz,fun l nl=>⟨_,rfl,p,C,dx,cX "earlier" (.ref e) (cX "clues" (.ref d) (cX "cells" (.ref c) (cX "n" (.int 0) []))),rfl,?_,T.cl,T.later,by rw [l0] at g1;omega,?_⟩⟩
  ·rw [aM (bP aK nl),aK]
  have g5:=gZ ("later" : Str) (.ref l) (cX "earlier" (.ref e) (cX "clues" (.ref d) (cX "cells" (.ref c) (cX "n" (.int 0) []))))
  have cp:c≠p:=fun z=>by rw [z,aK] at nc;cases nc
  have dp:d≠p:=fun z=>by rw [z,aK] at nd;cases nd
  have ep:e≠p:=fun z=>by rw [z,aK] at ne;cases ne
  have lp:l≠p:=fun z=>by rw [z,aK] at nl;cases nl
  rw [aM cp] at nc
  rw [aM dp] at nd
  have dc:d≠c:=fun z=>by rw [z,aK] at nd;cases nd
  rw [aM dc,aM dp] at nd
  rw [aM ep] at ne
  have ed:e≠d:=fun z=>by rw [z,aK] at ne;cases ne
  rw [aM ed,aM ep] at ne
  have ec:e≠c:=fun z=>by rw [z,aK] at ne;cases ne
  rw [aM ec,aM ep] at ne
  rw [aM lp] at nl
  have le:l≠e:=fun z=>by rw [z,aK] at nl;cases nl
  rw [aM le,aM lp] at nl
  have ld:l≠d:=fun z=>by rw [z,aK] at nl;cases nl
  rw [aM ld,aM lp] at nl
  have lc:l≠c:=fun z=>by rw [z,aK] at nl;cases nl
  rw [aM lc,aM lp] at nl
  refine q _ ⟨c,d,e,l⟩ ⟨⟨dx,_,aK,?_,?_,?_,?_,?_,by rw [l0] at g1;omega⟩,?_,?_,?_,?_,⟨nc,nd,ne,nl⟩,⟨dc.symm,ec.symm,lc.symm,ed.symm,ld.symm,le.symm⟩,fun b o hb kI=>?_⟩
  ·rw [cb,if_neg (by decide +kernel),cb,if_neg (by decide +kernel),cb,if_neg (by decide +kernel),cb,if_neg (by decide +kernel),cb,if_pos rfl];rfl
  ·rw [cb,if_neg (by decide +kernel),cb,if_neg (by decide +kernel),cb,if_neg (by decide +kernel),cb,if_pos rfl]
  ·rw [cb,if_neg (by decide +kernel),cb,if_neg (by decide +kernel),cb,if_pos rfl]
  ·rw [cb,if_neg (by decide +kernel),cb,if_pos rfl]
  ·rw [cb,if_pos rfl]
  ·rw [aM cp,aM lc.symm,aM cp,aM ec.symm,aM cp,aM dc.symm,aM cp,aK]
  ·rw [aM dp,aM ld.symm,aM dp,aM ed.symm,aM dp,aK]
  ·rw [aM ep,aM le.symm,aM ep,aK]
  ·rw [aM lp,aK]
  ·have k1:=bP hb nc
   have k2:=bP hb nd
   have k3:=bP hb ne
   have k4:=bP hb nl
   rw [aM kI,aM k4,aM kI,aM k3,aM kI,aM k2,aM kI,aM k1,aM kI]
   exact hb
end Dinit
end
end Tn
namespace Tn
open PySem PySem.Spec PyProof.Rows L2 Mi
structure Nw (c:Cc) (C:Addr):Prop where
 ex:∃(f:Addr) (fd:FuncData),Mk c.K C f∧eI c.P c.w c.K c.mg c.base ia c.k f fd ["self"] (GX C)∧c.mg "Town" = some (.ref C)∧Binds c.K fd ["self"] []
theorem hn {X:Cx} {k:Nat} {C:Addr} {p pos:Pos} {sc:Scope} (N:Nw (Cx.cc X k) C) (G:Good X (k+1)) (hs:X.env.scope=sc) (hg:pD sc "Town" = true):PE X (.Call (.Name "Town" p) [] [] pos) (OS C (GX C) [] E0 Jb):=by
 subst hs
 obtain ⟨f,fd,M,F,hm,hb⟩:=N.ex
 exact KG M F G.room (fX hg) hm hb .nil K0
set_option hygiene false in
macro "mN" h:term:max:term=>`(hn (sc:=ai sS) $h G rfl (by decide +kernel))
def join (F G:Hp):Hp:=fun b=>match F b with
 | some o=>some o
 | none=>G b
theorem Ru {F G:Hp}:bT F (join F G):=fun b o e=>by unfold join;rw [e]
theorem xw {F G:Hp} {b:Addr} (h:F b=none):join F G b=G b:=by unfold join;rw [h]
theorem Rv {F G H:Hp} (f:bT F H) (g:bT G H):bT (join F G) H:=fun b o e=>by
 unfold join at e
 cases h:F b with
 | some o'=>rw [h] at e;cases e;exact f _ _ h
 | none=>rw [h] at e;exact g _ _ e
noncomputable def Fm:List D→Option D:=kd (fun x:ae=>[tD x]) (fun x=>cP x) (fun x=>g9 (mS x))
theorem Rw {g:ae} (ok:cP g):Fm [tD g]=some (g9 (mS g)) :=
 b0 (x:=g) ok fun y h hy=>by injection h with h1 h;rw [dM hy ok h1]
theorem Rx {α:Type} (f:α→List Nat) (h:∀a,(f a).length≤1):∀l:List α,(l.flatMap f).length≤l.length
 | []=>aW _
 | a::l=>by
  have h1:=h a
  have h2:=Rx f h l
  rw [b_,ax,ay]
  omega
theorem C4 (l:List Nat):(Xb.kY l).length≤1:=by
 unfold Xb.kY
 split
 ·omega
 ·exact c8 _
section
variable {P:Program} {w:World} {K:aa} {mg:Str→Option Value} {base:Heap} {C:Addr} {k:Nat} {f:Addr} {fd:FuncData}
namespace Dwwc
def nN:List Str:=["town","bare"]
def pP:List Str:=["town"]
abbrev sS:Stmt:=top 56
theorem sc:aR nN pP (ai sS):=⟨rfl,rfl,rfl,by decide +kernel,rfl,by decide +kernel,by decide +kernel⟩
theorem ok (F:pG K "ways_without_clues" "ways_without_clues" sS f fd) (W:Wd K mg C) (p:Ps ⟨P,w,K,mg,base,k+1⟩) (N:Nw ⟨P,w,K,mg,base,k⟩ C):eI P w K mg base ia (k+1+1) f fd pP (MZ K 1 Fm):=by
 refine F.ok sc (fun vs H Q E h=>h.1) (fun eU A0 outer s H vs Q E hr h=>?_)
 obtain ⟨hl,F0,ds,d,f0,dl,hg,q⟩:=h
 obtain ⟨g,rfl,ok,rfl⟩:=bf hg
 obtain ⟨v,r,rfl,dv,dr⟩:=bJ dl
 obtain rfl:=bL dr
 have G:Good (gY ia P w K mg base nN "ways_without_clues" (ai sS) f eU A0 outer s H E).qC (k+1):=⟨hr,rfl,sc.nd,W.bl⟩
 have X0:Gl (gY ia P w K mg base nN "ways_without_clues" (ai sS) f eU A0 outer s H E).qC "list" := fX (by show pD (ai sS) "list" = true;decide +kernel)
 refine ⟨_,aE (dh (i:=1) sc.nd rfl (Or.inl rfl) (mN N)) (aE (eH (pv 1) (mE (.fld (.var 0) "n")) rfl)
  (aE (eH (pv 1) (lV ic X0 W.bl.list boot_list (bp (mE (.fld (.var 0) "cells")) cx)) rfl)
  (aE (eH (pv 1) (xI Ga (mE (.lst (x1 (.int 0)))) (mE (.un .len (.fld (.var 0) "clues")))) rfl)
  (br (b5 (mE (.call "town_ways" dE (x1 (.var 1))))))))),?_⟩
 obtain ⟨R6,Wn,hl3⟩:=ok.GW
 have hz:(1000:Nat)≤sizeLine:=by decide
 intro x UR nx nd kI
 refine ⟨x,UR,rfl,aK,fun H1 w1 m=>⟨rfl,?_⟩⟩
 obtain ⟨t1,s1,_⟩:=m.town (K:=K) (F:=H) nx nd (same_refl H)
 have sl:∀{H2:Hp} {o:Option V},bT H H2→Slots K H2 [some v,o] [some (tD g),none]:=fun s=>aA (cT (f0.trans s) _ _ dv) (ak aI)
 refine gD (sl s1) (cv (ah rfl) (gm g)) fun u H2 s2 du=>?_
 obtain rfl:=bD du
 have t2:=t1.same s2
 obtain ⟨dx,gs,y1,y2,y3,y4,y5,y6,y7⟩:=t2.ex
 refine ⟨_,rfl,x,C,dx,gs,rfl,y1,W.T.cl,W.T.n,by omega,?_⟩
 have t3:=t2.fn y1 g.n
 refine gD (sl t3.fh) (cv (ah rfl) (eF g)) fun u H4 s4 du=>?_
 obtain ⟨p4,rfl,JT⟩:=h7 du
 have t4:=t3.same s4
 refine ⟨p4,_,rfl,.inl (eS.of JT),fun z nz=>?_⟩
 obtain ⟨n1,n2,n3,n4,n5⟩:=t4.new nz
 have sz:=d8 nz (.lst (vL g.town))
 have t5:=t4.same sz
 obtain ⟨dx,gs,y1,y2,y3,y4,y5,y6,y7⟩:=t5.ex
 refine ⟨_,rfl,x,C,dx,gs,rfl,y1,W.T.cl,W.T.cells,by omega,?_⟩
 have t6:=t5.so y1 aK n1 ⟨n3,n4,n5⟩
 refine gD (sl t6.fh) (cE (ao bb aJ)) fun u H7 s7 du=>?_
 obtain ⟨p7,rfl,hp7⟩:=h7 (l:=[0]) du
 have t7:=t6.same s7
 refine gD (sl t7.fh) (fC (cv (ah rfl) (nY g)) gP) fun u H8 s8 du=>?_
 obtain rfl:=bD du
 have t8:=t7.same s8
 refine ⟨p7,_,_,rfl,rfl,s8 _ _ hp7,by omega,by omega,by rw [eu];show 1*_≤_;omega,fun z2 UQ=>?_⟩
 have e0:(aG (g.clues.flatten.length:Int).toNat (vL [0])).flatten=vL (Xb.z4 g.n).flatten:=by
  rw [iD,Oj,←Wn]
  show (aG g.clues.flatten.length [V.int 0]).flatten=_
  rw [tI]
  unfold vL
  rw [Nb];rfl
 rw [e0]
 obtain ⟨m1,m2,m3,m4,m5⟩:=t8.new UQ
 have sz2:=d8 UQ (.lst (vL (Xb.z4 g.n).flatten))
 have t9:=t8.same sz2
 obtain ⟨dx,gs,y1,y2,y3,y4,y5,y6,y7⟩:=t9.ex
 refine ⟨_,rfl,x,C,dx,gs,rfl,y1,W.T.cl,W.T.clues,by omega,?_⟩
 have Mw:=t9.u5 y1 aK m1 ⟨m2,m4,m5⟩
 have YY:cP ({ g with clues:=Xb.z4 g.n }:ae):=yP ok
 have nF:∀b,Own.has _ x b→F0 b=none:=fun b hb=>same_none f0 (Mw.nf b hb)
 have dn:Den K (join F0 (lim _ x _)) (tD ({ g with clues:=Xb.z4 g.n }:ae)) (.ref x):=Mw.Om W.T YY ((xw (nF _ (.inl rfl))).trans (if_pos (.inl rfl))) ((xw (nF _ (.inr (.inl rfl)))).trans (if_pos (.inr (.inl rfl)))) ((xw (nF _ (.inr (.inr (.inl rfl))))).trans (if_pos (.inr (.inr rfl))))
 refine ⟨_,[none,some (tD ({ g with clues:=Xb.z4 g.n }:ae))],_,Rv (f0.trans Mw.fh) qs,ak (aA dn aI),aL §1 (fL YY),fun u F2 H11 ex du=>q u F2 H11 ⟨Mw.fh.trans ex.hh,Ru.trans ex.ff,ex.fh,fun b h1 h2=>?_⟩ du⟩
 refine ex.nw b ?_ (Cd Mw.fh h2)
 rw [xw h1]
 cases hl:lim _ x _ b with
 | none=>rfl
 | some o =>
  exfalso
  rcases Mr hl with e|e|e
  ·exact h2 (Mw.nf b (.inl e))
  ·exact h2 (Mw.nf b (.inr (.inl e)))
  ·exact h2 (Mw.nf b (.inr (.inr (.inl e))))
end Dwwc
namespace Dneed
def nN:List Str:=["town","told","full","needed","cells"]
def pP:List Str:=["town","told"]
abbrev sS:Stmt:=top 55
theorem sc:aR nN pP (ai sS):=⟨rfl,rfl,rfl,by decide +kernel,rfl,by decide +kernel,by decide +kernel⟩
theorem ok (F:pG K "needed_places" "needed_places" sS f fd) (W:Wd K mg C) (p:Ps ⟨P,w,K,mg,base,k+1⟩) (N:Nw ⟨P,w,K,mg,base,k⟩ C) (hw:fH ⟨P,w,K,mg,base,k+1⟩ "ways_without_clues" Fm):eI P w K mg base ia (k+1+1) f fd pP (MZ K 2 gC):=by
 refine F.ok sc (fun vs H Q E h=>h.1) (fun eU A0 outer s H vs Q E hr h=>?_)
 obtain ⟨hl,F0,ds,d,f0,dl,hg,q⟩:=h
 obtain ⟨⟨g,T⟩,rfl,ok,rfl⟩:=bf hg
 have ok:cP g:=ok
 obtain ⟨v,r,rfl,dv,dr⟩:=bJ dl
 obtain ⟨v1,r,rfl,X1,dr⟩:=bJ dr
 obtain rfl:=bL dr
 have dv:Den K F0 (tD g) v:=dv
 have X1:Den K F0 (.lst (T.map nM)) v1:=X1
 have G:Good (gY ia P w K mg base nN "needed_places" (ai sS) f eU A0 outer s H E).qC (k+1):=⟨hr,rfl,sc.nd,W.bl⟩
 refine ⟨_,aE (dh (i:=2) sc.nd rfl (Or.inl rfl) (mN N)) (aE (eH (pv 2) (mE (.fld (.var 0) "n")) rfl)
  (aE (dh (i:=3) sc.nd rfl (Or.inl rfl) (mF .nil))
  (aE (Kv PassesOwn.never rfl (Hi (mE (.call "ways_without_clues" Fm (x1 (.var 0))))) (wN (i:=4) sc.nd rfl (Or.inl rfl))
   (aE (eH (pv 2) (pv 4) rfl) (br (iT (sM PySem.F.plainAttrs_list PySem.F.slot_list_extend PySem.F.type_list_extend um (pv 3) (bp (mE (.call "only_wrong" jC (x2 (.var 2) (.var 1)))) cx))))))
  (br (b5 (pv 3)))))),?_⟩
 have hz:(1000:Nat)≤sizeLine:=by decide
 intro x UR nx nd kI
 refine ⟨x,UR,rfl,aK,fun H1 w1 m=>⟨rfl,?_⟩⟩
 obtain ⟨t1,s1,_⟩:=m.town (K:=K) (F:=H) nx nd (same_refl H)
 refine gD (ρ:=[some (tD g),none,none,none,none]) (aA (cT (f0.trans s1) _ _ dv) (ak (ak (ak (ak aI))))) (cv (ah rfl) (gm g)) fun u H2 s2 du=>?_
 obtain rfl:=bD du
 have t2:=t1.same s2
 obtain ⟨dx,gs,y1,y2,y3,y4,y5,y6,y7⟩:=t2.ex
 refine ⟨_,rfl,x,C,dx,gs,rfl,y1,W.T.cl,W.T.n,by omega,?_⟩
 have t3:=t2.fn y1 g.n
 change vP (J8 K (jO .nil)) (kU 3) _ [some v,some v1,some (.ref x),none,none] _
 refine jg (ρ:=[none,none,none,none,none]) (ak (ak (ak (ak (ak aI))))) aJ fun z us H4 s4 nz VC _ dl4=>?_
 obtain rfl:=bL dl4
 have t4:=t3.same s4
 have Hz:H z=none:=same_none t3.fh nz
 have YZ:x≠z:=fun e=>t3.has (.inl e.symm) nz
 refine ⟨F0,[some (tD g),none,none,none,none],_,f0.trans t4.fh,aA dv (ak (ak (ak (ak aI)))),aL §1 (Rw ok),fun u F5 H5 ex du=>?_⟩
 have t5:=t4.same ex.hh
 obtain ⟨X2,l,us,rfl,UN,Y0⟩:=dd du
 have Fx:F5 x=none:=ex.nw x (same_none f0 nx) (t4.has (.inl rfl))
 have Fz:F5 z=none:=ex.nw z (same_none f0 Hz) (by rw [VC];exact fun e=>nomatch e)
 have Vh:us.length=(mS g).length:=by have:=bM Y0;rw [af] at this;exact this.symm
 obtain ⟨dx,gs,y1,y2,y3,y4,y5,y6,y7⟩:=t5.ex
 let B:List Nat→List Nat:=fun wy=>Xb.kY (ml g.n wy T)
 refine ⟨l,rfl,⟨us,eS.of (ex.fh _ _ UN)⟩,Kx (K:=K) (a:=l) (xs:=us) (fun i σ H'=>∃(v4:Option V) (gs:List (Str×V)) (cu:V),σ=[some v,some v1,some (.ref x),some (.ref z),v4]∧H' x=some (.ins C dx gs)∧gs.lookup ("n" : Str)=some (.int g.n)∧gs.lookup ("cells" : Str)=some cu∧gs.length≤20∧H' z=some (.lst (vL (((mS g).take i).flatMap B)))∧bT F5 H'∧bT H H')
  ⟨none,gs,_,rfl,y1,y2,y3,y7,ex.hh _ _ VC,ex.fh,t5.fh⟩ (fun i σ H' _ ⟨_,_,_,_,_,_,_,_,_,s7,_⟩=>eS.of (s7 _ _ UN)) ?_ ?_⟩
 ·rintro i y σ H6 hi ⟨v4,gs,cu,rfl,Y1,Y2,Y3,Y4,VE,s6,X3⟩
  obtain ⟨dy,ey,dyn⟩:=HF Y0 hi
  have Y5:i < (mS g).length:=by rw [←Vh];exact (cw.mp hi).1
  rw [b8,au Y5] at ey
  have ey:iL (mS g)[i]=dy:=bA.inj ey
  subst ey
  obtain ⟨pw,rfl,Y6⟩:=h7 dyn
  generalize X4:(mS g)[i]=wy at Y6
  have QF:wy.length=g.n*g.n:=by
   have:=(qe (yP ok) wy (by rw [←X4];exact cS _)).1
   exact this
  refine ⟨_,rfl,_,rfl,x,C,dx,gs,rfl,Y1,W.T.cl,W.T.cells,by omega,?_⟩
  have s7:bT F5 (upd H6 x (.ins C dx (cX "cells" (.ref pw) gs))):=jD s6 Fx _
  have Y7:bT H (upd H6 x (.ins C dx (cX "cells" (.ref pw) gs))):=jD X3 nx _
  have Y8:upd H6 x (.ins C dx (cX "cells" (.ref pw) gs)) z=some (.lst (vL (((mS g).take i).flatMap B))):=by rw [aM (Ne.symm YZ)];exact VE
  have Y9:(cX "cells" (.ref pw) gs).lookup ("n" : Str)=some (.int g.n):=by rw [cb,if_neg (by decide +kernel)];exact Y2
  have Y_:(cX "cells" (.ref pw) gs).lookup ("cells" : Str)=some (.ref pw):=by rw [cb,if_pos rfl]
  have aaX:wy.length≤16:=by have:=ok.hi;have h2:=kG this this;omega
  have df:Den K (upd H6 x (.ins C dx (cX "cells" (.ref pw) gs))) (fD g.n wy) (.ref x):=yQ aK W.T.cl (gE W.T.n Y9 (gE W.T.cells Y_ tO)) (bB (bO _) (bB (nJ (s7 _ _ Y6) (by omega)) bU))
  refine ⟨_,rfl,.inl ⟨rfl,_,eS.of Y8⟩,?_⟩
  refine gD (ρ:=[none,some (.lst (T.map nM)),some (fD g.n wy),none,none]) (ak (aA (cT (f0.trans Y7) _ _ X1) (aA df (ak (ak aI))))) (aL §2 (Aq ok.lo ok.hi QF)) fun u H8 s8 du=>?_
  obtain ⟨b,rfl,hb⟩:=h7 du
  have hlen:(((mS g).take i).flatMap B).length≤i:=aO (Rx B (fun _=>C4 _) _) (by rw [c0];omega)
  rw [af] at X2
  refine ⟨z,b,_,_,rfl,rfl,s8 _ _ Y8,hb,by rw [eu,eu];have:=C4 (ml g.n wy T);omega,?_⟩
  refine ⟨_,_,_,rfl,?_,Y9,Y_,by rw [yR Y3];exact Y4,?_,jD (s7.trans s8) Fz _,jD (Y7.trans s8) Hz _⟩
  ·rw [aM YZ];exact s8 _ _ aK
  ·rw [aK]
   have e:(mS g).take (i+1)=(mS g).take i++[wy]:=by rw [←X4,List.take_succ_eq_append_getElem Y5]
   rw [e,MO]
   unfold vL
   rw [bo]
   simp [B]
 ·rintro σ H6 ⟨v4,gs,cu,rfl,Y1,Y2,Y3,Y4,VE,s6,X3⟩
  rw [Vh,List.take_length] at VE
  refine ⟨_,rfl,?_⟩
  have O9:=Ext.add f0 X3 Hz VE
  rw [af] at X2
  exact q _ _ H6 O9 (f9 (by rw [af];exact aO (Rx B (fun _=>C4 _) _) X2) aK (mn _))
end Dneed
def GY (K:aa):Sp:=fun vs H Q _=>∃(v:V) (j:Nat) (F:Hp) (g:ae),vs=[v,.int j]∧bT F H∧Den K F (tD g) v∧cP g∧j < 4∧∀p H',bT H H'→H p=none→H' p=some (.lst (vL (eR g j)))→Q (.ref p) H'
namespace Dedge
def nN:List Str:=["town","side","clues","i"]
def pP:List Str:=["town","side"]
abbrev sS:Stmt:=top 100
theorem sc:aR nN pP (ai sS):=⟨rfl,rfl,rfl,by decide +kernel,rfl,by decide +kernel,by decide +kernel⟩
noncomputable abbrev eC:E:=.comp (.nm 3) (.pB (.fld (.var 0) "n")) .no (.call "line_clue" cf (x3 (.var 0) (.var 1) (.var 3)))
theorem ok (F:pG K "edge_line" "edge_line" sS f fd) (W:Wd K mg C) (p:Ps ⟨P,w,K,mg,base,k⟩):eI P w K mg base ia (k+1) f fd pP (GY K):=by
 refine F.ok sc (fun vs H Q E h=>?_) (fun eU A0 outer s H vs Q E hr h=>?_)
 ·obtain ⟨_,_,_,_,rfl,_⟩:=h
  rfl
 ·obtain ⟨v,j,F0,g,rfl,f0,dv,ok,hj,q⟩:=h
  have G:Good (gY ia P w K mg base nN "edge_line" (ai sS) f eU A0 outer s H E).qC k:=⟨hr,rfl,sc.nd,W.bl⟩
  refine ⟨_,aE (XG (N:=nN) (sc:=ai sS) (.asg 2 eC []) G (fun _=>rfl) PassesOwn.never rfl rfl (by okt) (by decide +kernel))
   (br (b5 (xI B8 (mE (.op .add (.lst (x1 (.gl "BLANK" (.int 32)))) (.call "signs_of" hZ (x1 (.var 2))))) (mE (.lst (x2 (.gl "BLANK" (.int 32)) (.gl "LINE_END" (.int 10)))))))),?_⟩
  have hz:(1000:Nat)≤sizeLine:=by decide
  have hn:=ok.hi
  obtain ⟨p1,p2⟩:=sj (k:=j) ok hj
  refine ⟨F0,H,F0,[.fz (tD g),.fz (iN j),.no,.no],.nx [.fz (tD g),.fz (iN j),.fz (iL (dJ g j)),.no],uF (ds:=[tD g,iN j]) f0 (bB dv (bB (bO _) bU)),?_,fun F1 H1 OQ _ S1=>?_⟩
  ·simp only [uc]
   rw [show bF eC (view (freeze [] [.fz (tD g),.fz (iN j),.no,.no]))=some (iL (dJ g j)) from p1]
   rfl
  ·refine ⟨F1,_,_,S1.ext.fh,S1.slots,p2,fun u F2 H2 iE du=>?_⟩
   obtain ⟨a1,rfl,h1⟩:=h7 du
   refine ⟨F2,_,_,iE.fh,S1.slots.mono iE.ff,EZ,fun u F3 H3 wX du=>?_⟩
   obtain ⟨a2,rfl,h2⟩:=h7 du
   refine ⟨a1,a2,_,_,rfl,rfl,wX.fh _ _ (wX.ff _ _ h1),wX.fh _ _ h2,?_,fun z nz=>?_⟩
   ·rw [eu,eu,ay,af,yX];show _+1+2≤_;omega
   ·have e:vL (32::(dJ g j).map fG)++vL [32,10]=vL (eR g j):=by
     unfold vL eR dJ
     rw [←bo,a8];rfl
    rw [e]
    have sH:bT H H3:=(S1.ext.hh.trans iE.hh).trans wX.hh
    exact q z _ (sH.trans (d8 nz _)) (same_none sH nz) aK
end Dedge
namespace Dtext
def nN:List Str:=["town","text","i"]
def pP:List Str:=["town"]
abbrev sS:Stmt:=top 99
theorem sc:aR nN pP (ai sS):=⟨rfl,rfl,rfl,by decide +kernel,rfl,by decide +kernel,by decide +kernel⟩
theorem ok (F:pG K "answer_text" "answer_text" sS f fd) (W:Wd K mg C) (p:Ps ⟨P,w,K,mg,base,k⟩) (he:qQ ⟨P,w,K,mg,base,k⟩ "edge_line" ["town","side"] (GY K)):eI P w K mg base ia (k+1) f fd pP (MZ K 1 (zP .text)):=by
 refine F.ok sc (fun vs H Q E h=>h.1) (fun eU A0 outer s H vs Q E hr h=>?_)
 obtain ⟨hl,F0,ds,d,f0,dl,hg,q⟩:=h
 obtain ⟨g,rfl,ok,rfl⟩:=bf hg
 obtain ⟨v,r,rfl,dv,dr⟩:=bJ dl
 obtain rfl:=bL dr
 have G:Good (gY ia P w K mg base nN "answer_text" (ai sS) f eU A0 outer s H E).qC k:=⟨hr,rfl,sc.nd,W.bl⟩
 refine ⟨_,aE (dh (i:=1) sc.nd rfl (Or.inl rfl) (mC he (bp (pv 0) (bp (mE (.gl "ABOVE" (.int 0))) cx))))
  (XH (N:=nN) (sc:=ai sS) mj G (fun _=>rfl) PassesOwn.never rfl rfl (by unfold mj jX;okt) (by decide +kernel)),?_⟩
 refine ⟨_,rfl,?_⟩
 refine ⟨F0,[none,none,none],_,f0,ak (ak (ak aI)),bW,fun u F1 H1 jQ du=>?_⟩
 obtain rfl:=bD du
 refine ⟨v,0,F1,g,rfl,jQ.fh,cT jQ.ff _ _ dv,ok,by decide,fun z H2 s2 nz hz2=>?_⟩
 have sH:bT H H2:=jQ.hh.trans s2
 have nH:H z=none:=same_none jQ.hh nz
 have F0z:F0 z=none:=same_none f0 nH
 have el:((eR g 0).map iN).length≤sizeLine:=by
  have hn:=ok.hi
  unfold eR
  rw [af,ax,ay,af,aP]
  exact aO (show g.n+1+2≤1000 by omega) (by decide)
 refine ⟨F0,H,F0,[.fz (tD g),.ow ((eR g 0).map iN),.no],.rt (dq (told g .text)),⟨⟨sH,same_refl F0,f0.trans sH,fun _ h _=>h⟩,rfl,fun i d e=>?_,fun i l e=>?_,fun i j l m b O7 e1 e2 _ _=>?_⟩,uZ ok,fun v F' H' _ ex dn=>q v F' H' ex dn⟩
 ·match i,e with
  | 0,e=>cases e;exact ⟨v,rfl,dv⟩
  | 1,e=>cases e
  | 2,e=>cases e
  | i+3,e=>cases e
 ·match i,e with
  | 0,e=>cases e
  | 1,e=>cases e;exact ⟨z,_,rfl,nH,F0z,hz2,el,mn _⟩
  | 2,e=>cases e
  | i+3,e=>cases e
 ·match i,j,e1,e2 with
  | 1,1,_,_=>exact O7 rfl
  | 0,_,e1,_=>cases e1
  | 2,_,e1,_=>cases e1
  | i+3,_,e1,_=>cases e1
  | 1,0,_,e2=>cases e2
  | 1,2,_,e2=>cases e2
  | 1,j+3,_,e2=>cases e2
end Dtext
end
end Tn
namespace Tn
open PySem PySem.Spec PyProof.Rows L2 Mi
def lB (p:Nat):Mp:=match p with
 | 1=>Dbuild.iq|2=>Dtear.iq|3=>Dtell.iq|16=>Dsolve.iq|17=>Dfill.iq|20=>Dclear.iq|21=>Dask.iq|22=>Dturn.iq|_=>Dmirror.iq
def Za (K:aa) (C:Addr) (ps:List Nat):Sp:=fun vs H Q _=>∃(A gp:Addr) (F:Hp) (w:Own) (a:aD) (p:Nat) (xs:List Nat),vs=[.ref A,.int p,.ref gp]∧TS K C F H A w a∧cP a.now∧F gp=some (.lst (vL xs))∧p∈ps∧xs.length=arity.getD p 0 ∧
 ∀v F' H' w',TS K C F' H' A w' { a with now:=(lB p a.now xs).1 }→jZ A F H w F' H' w'→Den K F' (dq (lB p a.now xs).2) v→Q v H'
def Zb (K:aa) (C:Addr) (ps:List Nat):Sp:=fun vs H Q _=>∃(A:Addr) (F:Hp) (w:Own) (a:aD) (p:Nat),vs=[.ref A,.int p]∧TS K C F H A w a∧cP a.now∧p∈ps ∧
 ∀v F' H' w',TS K C F' H' A w' { a with now:=(lB p a.now []).1 }→jZ A F H w F' H' w'→Den K F' (dq (lB p a.now []).2) v→Q v H'
structure Cs (c:Cc) (C:Addr):Prop where
 build:qQ c "answer_build" Dbuild.nN (DD c.K C 2 Dbuild.iq)
 tear:qQ c "answer_tear" Dtear.pP (DD c.K C 1 Dtear.iq)
 tell:qQ c "answer_tell" Dtell.pP (DD c.K C 3 Dtell.iq)
 fill:qQ c "answer_fill" Dfill.pP (DD c.K C 1 Dfill.iq)
 solve:qQ c "answer_solve" Dsolve.pP (DD c.K C 0 Dsolve.iq)
 clear:qQ c "answer_clear" Dclear.pP (DD c.K C 0 Dclear.iq)
 ask:qQ c "answer_ask" Dask.nN (DD c.K C 0 Dask.iq)
 turn:qQ c "answer_turn" Dturn.pP (DD c.K C 0 Dturn.iq)
 mirror:qQ c "answer_mirror" Dmirror.pP (DD c.K C 0 Dmirror.iq)
theorem je {p c:Nat} {x:Str} {ρ:eA} (h:fv ρ 1=some (iN p)):bF (.op .eq (.var 1) (.gl x (.int c))) ρ=some (.bl (decide (p=c))):=bu (ah h) bW (fA (b:=c))
section
variable {P:Program} {w:World} {K:aa} {mg:Str→Option Value} {base:Heap} {C:Addr} {k:Nat} {f:Addr} {fd:FuncData}
abbrev tq (x:Str) (j:Nat):E:=.op .eq (.var 1) (.gl x (.int j))
namespace Dgiven
def nN:List Str:=["town","call","given"]
abbrev sS:Stmt:=top 135
theorem sc:aR nN nN (ai sS):=⟨rfl,rfl,rfl,by decide +kernel,rfl,by decide +kernel,by decide +kernel⟩
abbrev gi (j:Int):E:=.ix (.var 2) (.int j)
theorem ok (F:pG K "answer_given_change" "answer_given_change" sS f fd) (W:Wd K mg C) (p:Ps ⟨P,w,K,mg,base,k⟩) (c:Cs ⟨P,w,K,mg,base,k⟩ C):eI P w K mg base ia (k+1) f fd nN (Za K C [1,2,3,17]):=by
 refine F.ok sc (fun vs H Q E h=>?_) (fun eU A0 outer s H vs Q E hr h=>?_)
 ·obtain ⟨_,_,_,_,_,_,_,rfl,_⟩:=h
  rfl
 ·obtain ⟨A,gp,F0,ow,a,n,xs,rfl,t,ok,Ry,hp,hl,q⟩:=h
  have G:Good (gY ia P w K mg base nN "answer_given_change" (ai sS) f eU A0 outer s H E).qC k:=⟨hr,rfl,sc.nd,W.bl⟩
  refine ⟨_,aE (fw (mT (tq "BUILD" 1)) (br (b5 (mC c.build (bp (pv 0) (bp (mE (gi 0)) (bp (mE (gi 1)) cx)))))) c_)
   (aE (fw (mT (tq "TEAR" 2)) (br (b5 (mC c.tear (bp (pv 0) (bp (mE (gi 0)) cx))))) c_)
   (aE (fw (mT (tq "TELL" 3)) (br (b5 (mC c.tell (bp (pv 0) (bp (mE (gi 0)) (bp (mE (gi 1)) (bp (mE (gi 2)) cx))))))) c_)
   (br (b5 (mC c.fill (bp (pv 0) (bp (mE (gi 0)) cx))))))),?_⟩
  have zR:∀{H1:Hp},Slots K H1 [some (.ref A),some (.int n),some (.ref gp)] [none,some (iN n),none]:=ak (aA (bO _) (ak aI))
  have hlx:xs.length≤3:=by
   simp only [aF,bS,or_false] at hp
   rcases hp with rfl|rfl|rfl|rfl<;>(rw [hl];decide)
  have M0:∀{H1:Hp},bT H H1→Slots K H1 [some (.ref A),some (.int n),some (.ref gp)] [none,none,some (iL xs)]:=fun s=>ak (ak (aA (nJ (s _ _ (t.fh _ _ Ry)) (by omega)) aI))
  refine gj zR (je rfl) fun H1 s1=>?_
  simp only [aF,bS,or_false] at hp
  rcases hp with rfl|rfl|rfl|rfl
  ·rw [decide_eq_true rfl,if_pos rfl]
   obtain ⟨x,y,rfl⟩:=Rk hl
   refine ⟨_,rfl,gD (M0 s1) (fE (ah rfl) bb rfl) fun v H2 s2 dv=>?_⟩
   obtain rfl:=bD dv
   refine gD (M0 (s1.trans s2)) (fE (ah rfl) bb rfl) fun v H3 s3 dv=>?_
   obtain rfl:=bD dv
   have sH:=(s1.trans s2).trans s3
   exact ⟨A,F0,ow,a,[x,y],rfl,rfl,t.same sH,ok,fun v F' H' w' t' kz dn=>q v F' H' w' t' ((jZ.refl.same sH).trans kz) dn⟩
  ·rw [decide_eq_false (by decide),if_neg (by decide)]
   refine gj zR (je rfl) fun H2 s2=>?_
   rw [decide_eq_true rfl,if_pos rfl]
   obtain ⟨x,rfl⟩:=Md hl
   refine ⟨_,rfl,gD (M0 (s1.trans s2)) (fE (ah rfl) bb rfl) fun v H3 s3 dv=>?_⟩
   obtain rfl:=bD dv
   have sH:=(s1.trans s2).trans s3
   exact ⟨A,F0,ow,a,[x],rfl,rfl,t.same sH,ok,fun v F' H' w' t' kz dn=>q v F' H' w' t' ((jZ.refl.same sH).trans kz) dn⟩
  ·rw [decide_eq_false (by decide),if_neg (by decide)]
   refine gj zR (je rfl) fun H2 s2=>?_
   rw [decide_eq_false (by decide),if_neg (by decide)]
   refine gj zR (je rfl) fun H3 s3=>?_
   rw [decide_eq_true rfl,if_pos rfl]
   obtain ⟨x,y,z,rfl⟩:=Vy hl
   have Rz:=(s1.trans s2).trans s3
   refine ⟨_,rfl,gD (M0 Rz) (fE (ah rfl) bb rfl) fun v H4 s4 dv=>?_⟩
   obtain rfl:=bD dv
   refine gD (M0 (Rz.trans s4)) (fE (ah rfl) bb rfl) fun v H5 s5 dv=>?_
   obtain rfl:=bD dv
   refine gD (M0 ((Rz.trans s4).trans s5)) (fE (ah rfl) bb rfl) fun v H6 s6 dv=>?_
   obtain rfl:=bD dv
   have sH:=((Rz.trans s4).trans s5).trans s6
   exact ⟨A,F0,ow,a,[x,y,z],rfl,rfl,t.same sH,ok,fun v F' H' w' t' kz dn=>q v F' H' w' t' ((jZ.refl.same sH).trans kz) dn⟩
  ·rw [decide_eq_false (by decide),if_neg (by decide)]
   refine gj zR (je rfl) fun H2 s2=>?_
   rw [decide_eq_false (by decide),if_neg (by decide)]
   refine gj zR (je rfl) fun H3 s3=>?_
   rw [decide_eq_false (by decide),if_neg (by decide)]
   obtain ⟨x,rfl⟩:=Md hl
   have Rz:=(s1.trans s2).trans s3
   refine ⟨_,rfl,gD (M0 Rz) (fE (ah rfl) bb rfl) fun v H4 s4 dv=>?_⟩
   obtain rfl:=bD dv
   have sH:=Rz.trans s4
   exact ⟨A,F0,ow,a,[x],rfl,rfl,t.same sH,ok,fun v F' H' w' t' kz dn=>q v F' H' w' t' ((jZ.refl.same sH).trans kz) dn⟩
end Dgiven
namespace Dwhole
def nN:List Str:=["town","call"]
abbrev sS:Stmt:=top 136
theorem sc:aR nN nN (ai sS):=⟨rfl,rfl,rfl,by decide +kernel,rfl,by decide +kernel,by decide +kernel⟩
theorem ok (F:pG K "answer_whole_change" "answer_whole_change" sS f fd) (W:Wd K mg C) (p:Ps ⟨P,w,K,mg,base,k⟩) (c:Cs ⟨P,w,K,mg,base,k⟩ C):eI P w K mg base ia (k+1) f fd nN (Zb K C [16,20,21,22,23]):=by
 refine F.ok sc (fun vs H Q E h=>?_) (fun eU A0 outer s H vs Q E hr h=>?_)
 ·obtain ⟨_,_,_,_,_,rfl,_⟩:=h
  rfl
 ·obtain ⟨A,F0,ow,a,n,rfl,t,ok,hp,q⟩:=h
  have G:Good (gY ia P w K mg base nN "answer_whole_change" (ai sS) f eU A0 outer s H E).qC k:=⟨hr,rfl,sc.nd,W.bl⟩
  refine ⟨_,aE (fw (mT (tq "SOLVE" 16)) (br (b5 (mC c.solve (bp (pv 0) cx)))) c_)
   (aE (fw (mT (tq "CLEAR" 20)) (br (b5 (mC c.clear (bp (pv 0) cx)))) c_)
   (aE (fw (mT (tq "ASK" 21)) (br (b5 (mC c.ask (bp (pv 0) cx)))) c_)
   (aE (fw (mT (tq "TURN" 22)) (br (b5 (mC c.turn (bp (pv 0) cx)))) c_)
   (br (b5 (mC c.mirror (bp (pv 0) cx))))))),?_⟩
  have zR:∀{H1:Hp},Slots K H1 [some (.ref A),some (.int n)] [none,some (iN n)]:=ak (aA (bO _) aI)
  refine gj zR (je rfl) fun H1 s1=>?_
  simp only [aF,bS,or_false] at hp
  rcases hp with rfl|rfl|rfl|rfl|rfl
  ·rw [decide_eq_true rfl,if_pos rfl]
   exact ⟨_,rfl,A,F0,ow,a,[],rfl,rfl,t.same s1,ok,fun v F' H' w' t' kz dn=>q v F' H' w' t' ((jZ.refl.same s1).trans kz) dn⟩
  ·rw [decide_eq_false (by decide),if_neg (by decide)]
   refine gj zR (je rfl) fun H2 s2=>?_
   rw [decide_eq_true rfl,if_pos rfl]
   have sH:=s1.trans s2
   exact ⟨_,rfl,A,F0,ow,a,[],rfl,rfl,t.same sH,ok,fun v F' H' w' t' kz dn=>q v F' H' w' t' ((jZ.refl.same sH).trans kz) dn⟩
  ·rw [decide_eq_false (by decide),if_neg (by decide)]
   refine gj zR (je rfl) fun H2 s2=>?_
   rw [decide_eq_false (by decide),if_neg (by decide)]
   refine gj zR (je rfl) fun H3 s3=>?_
   rw [decide_eq_true rfl,if_pos rfl]
   have sH:=(s1.trans s2).trans s3
   exact ⟨_,rfl,A,F0,ow,a,[],rfl,rfl,t.same sH,ok,fun v F' H' w' t' kz dn=>q v F' H' w' t' ((jZ.refl.same sH).trans kz) dn⟩
  ·rw [decide_eq_false (by decide),if_neg (by decide)]
   refine gj zR (je rfl) fun H2 s2=>?_
   rw [decide_eq_false (by decide),if_neg (by decide)]
   refine gj zR (je rfl) fun H3 s3=>?_
   rw [decide_eq_false (by decide),if_neg (by decide)]
   refine gj zR (je rfl) fun H4 s4=>?_
   rw [decide_eq_true rfl,if_pos rfl]
   have sH:=((s1.trans s2).trans s3).trans s4
   exact ⟨_,rfl,A,F0,ow,a,[],rfl,rfl,t.same sH,ok,fun v F' H' w' t' kz dn=>q v F' H' w' t' ((jZ.refl.same sH).trans kz) dn⟩
  ·rw [decide_eq_false (by decide),if_neg (by decide)]
   refine gj zR (je rfl) fun H2 s2=>?_
   rw [decide_eq_false (by decide),if_neg (by decide)]
   refine gj zR (je rfl) fun H3 s3=>?_
   rw [decide_eq_false (by decide),if_neg (by decide)]
   refine gj zR (je rfl) fun H4 s4=>?_
   rw [decide_eq_false (by decide),if_neg (by decide)]
   have sH:=((s1.trans s2).trans s3).trans s4
   exact ⟨_,rfl,A,F0,ow,a,[],rfl,rfl,t.same sH,ok,fun v F' H' w' t' kz dn=>q v F' H' w' t' ((jZ.refl.same sH).trans kz) dn⟩
end Dwhole
def wg (p:Nat) (a:aD) (xs:List Nat):aD×aT :=
 if 0≤(lB p a.now xs).2.ret then (⟨(lB p a.now xs).1,(a.now::a.undo).take 20,[]⟩,(lB p a.now xs).2) else ({ a with now:=(lB p a.now xs).1 },(lB p a.now xs).2)
def yY:List Nat:=[1,2,3,16,17,20,21,22,23]
def Zc (K:aa) (C:Addr):Sp:=fun vs H Q _=>∃(A gp:Addr) (F:Hp) (w:Own) (a:aD) (p:Nat) (xs:List Nat),vs=[.ref A,.int p,.ref gp]∧TS K C F H A w a∧Ms a∧F gp=some (.lst (vL xs))∧p∈yY∧xs.length=arity.getD p 0 ∧
 ∀v F' H' w',TS K C F' H' A w' (wg p a xs).1→jZ A F H w F' H' w'→Den K F' (dq (wg p a xs).2) v→Q v H'
theorem GZ {n:Nat} {ds:List D} {l:List Nat} (h:ds=l.map iN):iA .isin (iN n) (.tup ds)=some (.bl (decide (n∈l))):=by
 subst h
 show ((intsOf (l.map iN)).bind fun y=>some (decide ((n:Int)∈y))).bind (fun c=>some (D.bl c))=_
 rw [gq]
 show some (D.bl (decide ((n:Int)∈l.map fun x:Nat=>(x:Int))))=_
 rw [tu]
namespace Dchange
def nN:List Str:=["town","call","given","before","answer"]
def pP:List Str:=["town","call","given"]
abbrev sS:Stmt:=top 134
theorem sc:aR nN pP (ai sS):=⟨rfl,rfl,rfl,by decide +kernel,rfl,by decide +kernel,by decide +kernel⟩
abbrev e4:E:=.op .isin (.var 1) (.tup (.cons (.gl "BUILD" (.int 1)) (x3 (.gl "TEAR" (.int 2)) (.gl "TELL" (.int 3)) (.gl "FILL" (.int 17)))))
theorem ok (F:pG K "answer_change" "answer_change" sS f fd) (W:Wd K mg C) (p:Ps ⟨P,w,K,mg,base,k⟩) (hm:qQ ⟨P,w,K,mg,base,k⟩ "moment_of" ["town"] (Fg K C)) (hr1:qQ ⟨P,w,K,mg,base,k⟩ "remember" ["town","before"] (II K C))
  (hg:qQ ⟨P,w,K,mg,base,k⟩ "answer_given_change" Dgiven.nN (Za K C [1,2,3,17])) (hw:qQ ⟨P,w,K,mg,base,k⟩ "answer_whole_change" Dwhole.nN (Zb K C [16,20,21,22,23])):eI P w K mg base ia (k+1) f fd pP (Zc K C):=by
 refine F.ok sc (fun vs H Q E h=>?_) (fun eU A0 outer s H vs Q E hr h=>?_)
 ·obtain ⟨_,_,_,_,_,_,_,rfl,_⟩:=h
  rfl
 ·obtain ⟨A,gp,F0,ow,a,n,xs,rfl,t,wf,Ry,hp,hl,q⟩:=h
  have G:Good (gY ia P w K mg base nN "answer_change" (ai sS) f eU A0 outer s H E).qC k:=⟨hr,rfl,sc.nd,W.bl⟩
  refine ⟨_,aE (dh (i:=3) sc.nd rfl (Or.inl rfl) (mC hm (bp (pv 0) cx)))
   (aE (fw (mT e4) (br (dh (i:=4) sc.nd rfl (Or.inl rfl) (mC hg (bp (pv 0) (bp (pv 1) (bp (pv 2) cx)))))) (br (dh (i:=4) sc.nd rfl (Or.inl rfl) (mC hw (bp (pv 0) (bp (pv 1) cx))))))
   (aE (fw (mT (.op .ge (.ix (.var 4) (.int 0)) (.int 0))) (br (iT (mC hr1 (bp (pv 0) (bp (pv 3) cx))))) c_)
   (br (b5 (pv 4))))),?_⟩
  refine ⟨_,rfl,A,F0,ow,a,rfl,t,wf.now,fun vb F1 H1 jQ db=>?_⟩
  have t1:=t.ext jQ
  have nO:jZ A F0 H ow F1 H1 ow:=jZ.refl.ext jQ
  have e4v:∀{ρ:eA},fv ρ 1=some (iN n)→bF e4 ρ=some (.bl (decide (n∈[1,2,3,17]))):=fun h=>bu (ah h) (tj (ao bW (ao bW (ao bW (ao bW aJ))))) (GZ rfl)
  refine gj (ρ:=[none,some (iN n),none,none,none]) (ak (aA (bO _) (ak (ak (ak aI))))) (e4v rfl) fun H2 s2=>?_
  have t2:=t1.same s2
  have q_:=nO.same s2
  have fin:∀va F3 H3 w3,TS K C F3 H3 A w3 { a with now:=(lB n a.now xs).1 }→jZ A F1 H2 ow F3 H3 w3→Den K F3 (dq (lB n a.now xs).2) va →
    Nj (Sn (sR K fun ρ=>(bF (.op .ge (.ix (.var 4) (.int 0)) (.int 0)) ρ).bind fB) (DK (Hq (II K C) [] E0 (DP (rQ 0) (DP (rQ 3) Jb)))) Kn) (Sm (rQ 4)) { nx:=fun _ H'=>Q .gg H',rt:=Q } [some (.ref A),some (.int n),some (.ref gp),some vb,some va] H3:=fun va F3 H3 w3 t3 oj da=>by
   have X5:=q_.trans oj
   refine gj (ρ:=[none,none,none,none,some (dq (lB n a.now xs).2)]) (ak (ak (ak (ak (aA (cT t3.fh _ _ da) aI))))) (bu (fE (ah rfl) bb (show Gf (dq (lB n a.now xs).2) (.int 0)=some (.int (lB n a.now xs).2.ret) from rfl)) bb rfl) fun H4 s4=>?_
   have t4:=t3.same s4
   have vo:=X5.same s4
   by_cases NO:0≤(lB n a.now xs).2.ret
   ·rw [decide_eq_true NO,if_pos rfl]
    have ee:wg n a xs=(⟨(lB n a.now xs).1,(a.now::a.undo).take 20,[]⟩,(lB n a.now xs).2):=if_pos NO
    rw [ee] at q
    have we:=wf.we
    refine ⟨_,rfl,_,rfl,A,vb,F3,w3,_,a.now,rfl,t4,cT oj.ff _ _ db,(show a.undo.length≤20 by omega),fun H5 w5 t5 uh=>?_⟩
    exact ⟨_,rfl,q va F3 H5 w5 t5 (vo.trans uh) da⟩
   ·rw [decide_eq_false NO,if_neg (by decide)]
    have ee:wg n a xs=({ a with now:=(lB n a.now xs).1 },(lB n a.now xs).2):=if_neg NO
    rw [ee] at q
    exact ⟨_,rfl,q va F3 H4 w3 t4 vo da⟩
  by_cases Jg:n∈[1,2,3,17]
  ·rw [decide_eq_true Jg,if_pos rfl]
   exact ⟨_,rfl,_,rfl,_,rfl,A,gp,F1,ow,a,n,xs,rfl,t2,wf.now,jQ.ff _ _ Ry,Jg,hl,fun v F' H' w' t' kz dn=>fin v F' H' w' t' kz dn⟩
  ·rw [decide_eq_false Jg,if_neg (by decide)]
   have IF:n∈[16,20,21,22,23]:=by
    unfold yY at hp
    simp only [aF,bS,or_false,not_or] at hp Jg ⊢
    omega
   have hx:xs=[]:=by
    simp only [aF,bS,or_false] at IF
    rcases IF with rfl|rfl|rfl|rfl|rfl<;>exact GV hl
   subst hx
   exact ⟨_,rfl,_,rfl,A,F1,ow,a,n,rfl,t2,wf.now,IF,fun v F' H' w' t' kz dn=>fin v F' H' w' t' kz dn⟩
end Dchange
end
end Tn
namespace Tn
open PySem PySem.Spec PyProof.Rows L2 Mi
def qt (s:Option aD):aD:=s.getD a0
def Ov:Option aD→Prop
 | none=>True
 | some a=>Ms a
theorem JU {l:List Nat} {c h:Nat} (h0:l.getD c 0=0) (hh:h≠0):aB l≤aB (l.set c h):=by
 by_cases hc:c < l.length
 ·rw [qU hc h0 hh];omega
 ·rw [List.set_eq_of_length_le (by omega)];exact aW _
theorem vc {n:Nat} {c:J1}:∀(f:Nat) (t:vh),(∀x∈t,x≤n)→aB t≤aB (dF n c f t)∧(dF n c f t).length=t.length∧∀x∈dF n c f t,x≤n
 | 0,t,h=>⟨aW _,rfl,h⟩
 | f+1,t,h=>by
  unfold dF
  by_cases hs:eP n t c=true
  ·rw [if_pos hs];exact ⟨aW _,rfl,h⟩
  ·rw [if_neg hs]
   cases hh:fF n t c with
   | none=>exact ⟨aW _,rfl,h⟩
   | some x =>
    obtain ⟨_,h0,h1,h2⟩:=Xa.BF hh
    obtain ⟨i1,i2,i3⟩:=vc f (t.set x.1 x.2) fun y hy=>by
     rcases fS hy with hy|rfl
     ·exact h y hy
     ·exact h2
    exact ⟨aO (JU h0 (by omega)) i1,by rw [i2,cO],i3⟩
theorem RA {p:Nat} {g:ae} {xs:List Nat} (hp:p∈yY) (hl:xs.length=arity.getD p 0) (ok:cP g):cP (lB p g xs).1∧(lB p g xs).1.n=g.n:=by
 unfold yY at hp
 simp only [aF,bS,or_false] at hp
 rcases hp with rfl|rfl|rfl|rfl|rfl|rfl|rfl|rfl|rfl
 ·obtain ⟨c,h,rfl⟩:=Rk hl
  show cP (Dbuild.iq g [c,h]).1∧(Dbuild.iq g [c,h]).1.n=g.n
  unfold Dbuild.iq
  simp only [ue,MP]
  split
  ·exact ⟨ok,rfl⟩
  ·split
   ·exact ⟨ok,rfl⟩
   ·exact ⟨xp ok (by omega),rfl⟩
 ·obtain ⟨c,rfl⟩:=Md hl
  show cP (Dtear.iq g [c]).1∧(Dtear.iq g [c]).1.n=g.n
  unfold Dtear.iq
  simp only [ue]
  split
  ·exact ⟨ok,rfl⟩
  ·split
   ·exact ⟨ok,rfl⟩
   ·exact ⟨xp ok (by omega),rfl⟩
 ·obtain ⟨c,i,v,rfl⟩:=Vy hl
  show cP (Dtell.iq g [c,i,v]).1∧(Dtell.iq g [c,i,v]).1.n=g.n
  unfold Dtell.iq
  simp only [ue,MP]
  split
  ·exact ⟨ok,rfl⟩
  ·exact ⟨L8 ok (by omega) (by omega),rfl⟩
 ·show cP (Dsolve.iq g xs).1∧(Dsolve.iq g xs).1.n=g.n
  unfold Dsolve.iq
  split
  ·exact ⟨ok,rfl⟩
  ·obtain ⟨_,i2,i3⟩:=vc (c:=g.clues) (g.n*g.n) g.town ok.Gy
   exact ⟨tN ok (by rw [i2];exact ok.town) i3,rfl⟩
 ·show cP (Dfill.iq g xs).1∧(Dfill.iq g xs).1.n=g.n
  unfold Dfill.iq
  split
  ·rename_i l hl
   obtain ⟨h1,h2⟩:=qe ok l (b7 hl)
   exact ⟨tN ok h1 fun x hx=>(h2 x hx).2,rfl⟩
  ·exact ⟨ok,rfl⟩
 ·exact ⟨tN ok (by rw [af];exact ok.town) fun x hx=>by obtain ⟨_,_,rfl⟩:=ba.mp hx;exact c8 _,rfl⟩
 ·show cP (Dask.iq g xs).1∧(Dask.iq g xs).1.n=g.n
  unfold Dask.iq
  split
  ·exact ⟨Iw ok,rfl⟩
  ·exact ⟨ok,rfl⟩
 ·exact ⟨Ma ok,rfl⟩
 ·exact ⟨GU ok,rfl⟩
theorem qu {p:Nat} {a:aD} {xs:List Nat} {r:aT} (h:lB p a.now xs=(a.now,r)) (hr:¬0≤r.ret):wg p a xs=(a,r):=by
 unfold wg
 rw [h,if_neg hr]
theorem lC {p:Nat} {a:aD} {xs:List Nat} {g:ae} {r:aT} (h:lB p a.now xs=(g,r)) (hr:0≤r.ret):wg p a xs=(jh a g,r):=by
 unfold wg
 rw [h,if_pos hr];rfl
theorem BN {p:Nat} {a:aD} {xs:List Nat} (hp:p∈yY) (hl:xs.length=arity.getD p 0) (ok:cP a.now):aY (some a) (kZ p xs)=(some (wg p a xs).1,(wg p a xs).2):=by
 unfold yY at hp
 simp only [aF,bS,or_false] at hp
 rcases hp with rfl|rfl|rfl|rfl|rfl|rfl|rfl|rfl|rfl
 ·obtain ⟨c,h,rfl⟩:=Rk hl
  show (if a.now.n*a.now.n≤c∨h < 1∨a.now.n < h then (some a,aw (-22)) else if az a.now.town c≠0 then (some a,aw (-17)) else (some (jh a { a.now with town:=a.now.town.set c h }),aw (aB a.now.town+1:Nat)))=_
  by_cases h1:a.now.n*a.now.n≤c∨h < 1∨a.now.n < h
  ·rw [if_pos h1,qu (p:=1) (a:=a) (xs:=[c,h]) (r:=aw (-22)) (if_pos h1) (by decide)]
  ·rw [if_neg h1]
   by_cases h2:az a.now.town c≠0
   ·rw [if_pos h2,qu (p:=1) (a:=a) (xs:=[c,h]) (r:=aw (-17)) ((if_neg h1).trans (if_pos h2)) (by decide)]
   ·rw [if_neg h2,lC (p:=1) (a:=a) (xs:=[c,h]) ((if_neg h1).trans (if_neg h2)) (jJ _)];rfl
 ·obtain ⟨c,rfl⟩:=Md hl
  show (if a.now.n*a.now.n≤c then (some a,aw (-22)) else if az a.now.town c=0 then (some a,aw (-2)) else (some (jh a { a.now with town:=a.now.town.set c 0 }),aw (az a.now.town c:Nat)))=_
  by_cases h1:a.now.n*a.now.n≤c
  ·rw [if_pos h1,qu (p:=2) (a:=a) (xs:=[c]) (r:=aw (-22)) (if_pos h1) (by decide)]
  ·rw [if_neg h1]
   by_cases h2:az a.now.town c=0
   ·rw [if_pos h2,qu (p:=2) (a:=a) (xs:=[c]) (r:=aw (-2)) ((if_neg h1).trans (if_pos h2)) (by decide)]
   ·rw [if_neg h2,lC (p:=2) (a:=a) (xs:=[c]) ((if_neg h1).trans (if_neg h2)) (jJ _)];rfl
 ·obtain ⟨c,i,v,rfl⟩:=Vy hl
  show (if 3 < c∨a.now.n≤i∨a.now.n < v then (some a,aw (-22)) else (some (jh a { a.now with clues:=gf a.now.clues c i v }),aw (a6 a.now.clues c i:Nat)))=_
  by_cases h1:3 < c∨a.now.n≤i∨a.now.n < v
  ·rw [if_pos h1,qu (p:=3) (a:=a) (xs:=[c,i,v]) (r:=aw (-22)) (if_pos h1) (by decide)]
  ·rw [if_neg h1,lC (p:=3) (a:=a) (xs:=[c,i,v]) (if_neg h1) (jJ _)];rfl
 ·show (if eP a.now.n a.now.town a.now.clues=true then (some a,aw (-33)) else (match fF a.now.n a.now.town a.now.clues with|some _=>(some (jh a { a.now with town:=dF a.now.n a.now.clues (a.now.n*a.now.n) a.now.town }),aw ((aB (dF a.now.n a.now.clues (a.now.n*a.now.n) a.now.town):Int) - aB a.now.town))|none=>(some a,aw (-6))))=_
  by_cases hn:(gn a.now).ret < 0
  ·obtain ⟨h1,h2⟩:=IH hn
   rw [qu (p:=16) (r:=gn a.now) (if_pos hn) (by omega),h2]
   by_cases hs:eP a.now.n a.now.town a.now.clues=true
   ·rw [if_pos hs,if_pos hs]
   ·rw [if_neg hs,if_neg hs,h1.resolve_left hs]
  ·obtain ⟨x,h1,h2,h3⟩:=Ff (show 0≤(gn a.now).ret by omega)
   obtain ⟨i1,_⟩:=vc (c:=a.now.clues) (a.now.n*a.now.n) a.now.town ok.Gy
   rw [if_neg (by rw [h1];decide),h2,lC (p:=16) (if_neg hn) (show (0:Int)≤(aB (dF a.now.n a.now.clues (a.now.n*a.now.n) a.now.town):Int) - aB a.now.town by omega)]
 ·obtain ⟨c,rfl⟩:=Md hl
  show (match (a9 a.now)[c]? with|some l=>(some (jh a { a.now with town:=l }),aw ((a.now.n*a.now.n:Nat) - (aB a.now.town:Int)))|none=>(some a,aw (-2)):Option aD×aT)=_
  cases hc:(a9 a.now)[c]? with
  | none=>rw [qu (p:=17) (r:=aw (-2)) (by show (match (a9 a.now)[c]? with|some l=>_|none=>_:ae×aT)=_;rw [hc]) (by decide)]
  | some l =>
   have:=Xc.yG a.now.town
   have ht:=ok.town
   rw [lC (p:=17) (by show (match (a9 a.now)[c]? with|some l=>_|none=>_:ae×aT)=({ a.now with town:=l },aw ((a.now.n*a.now.n:Nat) - (aB a.now.town:Int)));rw [hc]) (show (0:Int)≤(a.now.n*a.now.n:Nat) - (aB a.now.town:Int) by omega)]
 ·rw [lC (p:=20) (g:={ a.now with town:=a.now.town.map fun _=>0 }) (r:=aw (aB a.now.town)) rfl (jJ _)];rfl
 ·show (if gd a.now=true then (some (jh a { a.now with clues:=cC a.now }),aw (4*a.now.n:Nat)) else (some a,aw (-12)))=_
  by_cases h1:gd a.now=true
  ·rw [if_pos h1,lC (p:=21) (if_pos h1) (jJ _)]
  ·rw [if_neg h1,qu (p:=21) (r:=aw (-12)) (if_neg h1) (by decide)]
 ·rw [lC (p:=22) (r:=aw 0) rfl (by decide)];rfl
 ·rw [lC (p:=23) (r:=aw 0) rfl (by decide)];rfl
def tT:List Nat:=[9,10,11,12,13,18]
def oR:List Nat:=[4,5,6,14,7,8,15,19,24]
theorem oS {p:Nat} {a:aD} {xs:List Nat} (hp:p∈tT++oR):aY (some a) (kZ p xs)=(some a,told a.now (kZ p xs)):=by
 unfold tT oR at hp
 simp only [List.cons_append,eZ,aF,bS,or_false] at hp
 have hi:∀{c:Prop} [Decidable c] {x y:aT},(if c then (some a,x) else (some a,y))=(some a,(if c then ((some ⟨a.now,[],[]⟩:Option aD),x) else (some ⟨a.now,[],[]⟩,y)).2):=fun {c _ x y}=>by split<;>rfl
 rcases hp with rfl|rfl|rfl|rfl|rfl|rfl|rfl|rfl|rfl|rfl|rfl|rfl|rfl|rfl|rfl
 ·rfl
 ·show (match (a9 a.now)[xs.getD 0 0]? with|some l=>_|none=>_:Option aD×aT)=(some a,(match (a9 a.now)[xs.getD 0 0]? with|some l=>_|none=>_:Option aD×aT).2)
  cases (a9 a.now)[xs.getD 0 0]?<;>rfl
 ·show (if a.now.n*a.now.n≤xs.getD 0 0 then _ else (match a9 a.now with|[]=>_|q::l=>_):Option aD×aT)=(some a,(if a.now.n*a.now.n≤xs.getD 0 0 then _ else (match a9 a.now with|[]=>_|q::l=>_):Option aD×aT).2)
  split
  ·rfl
  ·cases a9 a.now<;>rfl
 ·exact hi
 ·show (match a9 a.now with|[]=>_|q::l=>_:Option aD×aT)=(some a,(match a9 a.now with|[]=>_|q::l=>_:Option aD×aT).2)
  cases a9 a.now<;>rfl
 ·show (match a9 a.now with|[]=>_|_=>_:Option aD×aT)=(some a,(match a9 a.now with|[]=>_|_=>_:Option aD×aT).2)
  cases a9 a.now<;>rfl
 ·exact hi
 ·exact hi
 ·exact hi
 ·show (if 3 < xs.getD 0 0∨a.now.n≤xs.getD 1 0 then _ else (match gx a.now.n a.now.town a.now.clues (xs.getD 0 0) (xs.getD 1 0) with|[]=>_|w=>_):Option aD×aT)=(some a,(if 3 < xs.getD 0 0∨a.now.n≤xs.getD 1 0 then _ else (match gx a.now.n a.now.town a.now.clues (xs.getD 0 0) (xs.getD 1 0) with|[]=>_|w=>_):Option aD×aT).2)
  split
  ·rfl
  ·cases gx a.now.n a.now.town a.now.clues (xs.getD 0 0) (xs.getD 1 0)<;>rfl
 ·rfl
 ·rfl
 ·show (if eP a.now.n a.now.town a.now.clues=true then _ else (match fF a.now.n a.now.town a.now.clues with|some x=>_|none=>_):Option aD×aT)=(some a,(if eP a.now.n a.now.town a.now.clues=true then _ else (match fF a.now.n a.now.town a.now.clues with|some x=>_|none=>_):Option aD×aT).2)
  split
  ·rfl
  ·cases fF a.now.n a.now.town a.now.clues<;>rfl
 ·exact hi
 ·rfl
theorem yZ {a:aD}:aY (some a) .back=(some (Dback.res a).1,(Dback.res a).2):=by
 show (match a.undo with|g::l=>_|[]=>_:Option aD×aT)=_
 unfold Dback.res
 cases a.undo<;>rfl
theorem vJ {a:aD}:aY (some a) .again=(some (Dagain.res a).1,(Dagain.res a).2):=by
 show (match a.redo with|g::l=>_|[]=>_:Option aD×aT)=_
 unfold Dagain.res
 cases a.redo<;>rfl
theorem y8 {p:Nat} {xs:List Nat} (h1:1≤p) (FK:p≤27):aY none (kZ p xs)=(none,aw (-61)):=by
 have:p=1∨p=2∨p=3∨p=4∨p=5∨p=6∨p=7∨p=8∨p=9∨p=10∨p=11∨p=12∨p=13∨p=14∨p=15∨p=16∨p=17∨p=18∨p=19∨p=20∨p=21∨p=22∨p=23∨p=24∨p=25∨p=26∨p=27:=by omega
 rcases this with rfl|rfl|rfl|rfl|rfl|rfl|rfl|rfl|rfl|rfl|rfl|rfl|rfl|rfl|rfl|rfl|rfl|rfl|rfl|rfl|rfl|rfl|rfl|rfl|rfl|rfl|rfl<;>rfl
theorem RB {p:Nat} {a:aD} {xs:List Nat} (hp:p∈yY) (hl:xs.length=arity.getD p 0) (wf:Ms a):Ms (wg p a xs).1:=by
 obtain ⟨o1,o2⟩:=RA hp hl wf.now
 have we:=wf.we
 unfold wg
 split
 ·refine ⟨o1,fun g hg=>?_,?_⟩
  ·rw [fT] at hg
   have hg:g∈(a.now::a.undo).take 20:=hg
   have e:(lB p a.now xs).1.n=a.now.n:=o2
   rcases aF.mp (sv hg) with rfl|hg
   ·exact ⟨wf.now,e.symm⟩
   ·obtain ⟨q1,q2⟩:=wf.old g (bE.mpr (.inl hg))
    exact ⟨q1,q2.trans e.symm⟩
  ·show ((a.now::a.undo).take 20).length+0≤20
   rw [c0];omega
 ·exact ⟨o1,fun g hg=>⟨(wf.old g hg).1,(wf.old g hg).2.trans o2.symm⟩,we⟩
theorem Ow {a:aD} (wf:Ms a):Ms (Dback.res a).1:=by
 have we:=wf.we
 have old:=wf.old
 unfold Dback.res
 cases hU:a.undo with
 | nil=>exact wf
 | cons g l =>
  rw [hU] at we old
  have hg:=old g (by simp)
  refine ⟨hg.1,fun x hx=>?_,by show l.length+(a.redo.length+1)≤20;rw [ay] at we;omega⟩
  have hx:x∈l++a.now::a.redo:=hx
  show cP x∧x.n=g.n
  rcases bE.mp hx with hx|hx
  ·have:=old x (by simp [hx]);exact ⟨this.1,this.2.trans hg.2.symm⟩
  ·rcases aF.mp hx with rfl|hx
   ·exact ⟨wf.now,hg.2.symm⟩
   ·have:=old x (by simp [hx]);exact ⟨this.1,this.2.trans hg.2.symm⟩
theorem Mx {a:aD} (wf:Ms a):Ms (Dagain.res a).1:=by
 have we:=wf.we
 have old:=wf.old
 unfold Dagain.res
 cases hU:a.redo with
 | nil=>exact wf
 | cons g l =>
  rw [hU] at we old
  have hg:=old g (by simp)
  refine ⟨hg.1,fun x hx=>?_,?_⟩
  ·have hx:x∈(a.now::a.undo).take DB++l:=hx
   show cP x∧x.n=g.n
   rcases bE.mp hx with hx|hx
   ·rcases aF.mp (sv hx) with rfl|hx
    ·exact ⟨wf.now,hg.2.symm⟩
    ·have:=old x (by simp [hx]);exact ⟨this.1,this.2.trans hg.2.symm⟩
   ·have:=old x (by simp [hx]);exact ⟨this.1,this.2.trans hg.2.symm⟩
  ·show ((a.now::a.undo).take 20).length+l.length≤20
   rw [c0,ay]
   rw [ay] at we
   omega
theorem kinds {p:Nat} (h1:1≤p) (FK:p≤27):p=25∨p=26∨p∈yY∨p∈tT∨p∈oR∨p=27:=by
 unfold yY tT oR
 simp only [aF,bS,or_false]
 omega
theorem My {p:Nat} {s:Option aD} {xs:List Nat} (h1:1≤p) (FK:p≤27) (hl:xs.length=arity.getD p 0) (wf:Ov s):Ov (aY s (kZ p xs)).1:=by
 cases s with
 | none=>rw [y8 h1 FK];trivial
 | some a =>
  have wf:Ms a:=wf
  rcases kinds h1 FK with rfl|rfl|h|h|h|rfl
  ·show Ov (aY (some a) .back).1
   rw [yZ];exact Ow wf
  ·show Ov (aY (some a) .again).1
   rw [vJ];exact Mx wf
  ·rw [BN h hl wf.now];exact RB h hl wf
  ·rw [oS (bE.mpr (.inl h))];exact wf
  ·rw [oS (bE.mpr (.inr h))];exact wf
  ·exact wf
end Tn
namespace Tn
open PySem PySem.Spec PyProof.Rows L2 Mi
noncomputable def Mz:List D→Option D:=fun ds=>match M4 oR ds with
 | some d=>some d
 | none=>XE ds
theorem US {ds:List D} {d:D} (h:M4 oR ds=some d):Mz ds=some d:=by unfold Mz;rw [h]
theorem UT:∀ds d,Mz ds=some d→bN 3 gM ds=some d:=fun ds d h=>by
 unfold Mz at h
 cases h1:M4 oR ds with
 | some e=>rw [h1] at h;cases h;exact Me (fun g ok=>E6 ok) ds d h1
 | none=>rw [h1] at h;exact Uz ds d h
theorem RC {x:ae×Nat×Nat} (ok:cP x.1):Mz [xo x,iN 27,iL []]=some (dq (si x)):=by
 unfold Mz
 cases h1:M4 oR [xo x,iN 27,iL []] with
 | some e =>
  have h2:=Me (fun g ok=>E6 ok) _ e h1
  rw [BI ok] at h2
  exact h2.symm
 | none=>exact Uy ok
def Zd (K:aa) (C:Addr):Sp:=fun vs H Q _=>∃(A gp:Addr) (F:Hp) (w:Own) (s:Option aD) (p:Nat) (xs:List Nat),vs=[.ref A,.int p,.ref gp]∧TS K C F H A w (qt s)∧Ov s∧F gp=some (.lst (vL xs))∧1≤p∧p≤27∧xs.length=arity.getD p 0 ∧
 ∀v F' H' w',TS K C F' H' A w' (qt (aY s (kZ p xs)).1)→jZ A F H w F' H' w'→(∃pa,v=.ref pa∧H' pa=some (.lst (aV (aY s (kZ p xs)).2))∧(F pa≠none∨w.has A pa∨H pa=none))→Q v H'
theorem xx {K:aa} {A:Addr} {F H F' H':Hp} {w w':Own} {r:aT} {v:V} (st:jZ A F H w F' H' w') (fh:bT F' H') (d:Den K F' (dq r) v):∃pa,v=.ref pa∧H' pa=some (.lst (aV r))∧(F pa≠none∨w.has A pa∨H pa=none):=by
 obtain ⟨pa,rfl,h⟩:=tS d
 refine ⟨pa,rfl,fh _ _ h,?_⟩
 cases hf:F pa with
 | some o=>exact .inl fun e=>nomatch e
 | none =>
  cases hh:H pa with
  | none=>exact .inr (.inr rfl)
  | some o=>rw [st.nw pa hf (by rw [hh];exact fun e=>nomatch e)] at h;cases h
section
variable {P:Program} {w:World} {K:aa} {mg:Str→Option Value} {base:Heap} {C:Addr} {k:Nat} {f:Addr} {fd:FuncData}
namespace Dcall
def nN:List Str:=["town","call","given"]
abbrev sS:Stmt:=top 133
theorem sc:aR nN nN (ai sS):=⟨rfl,rfl,rfl,by decide +kernel,rfl,by decide +kernel,by decide +kernel⟩
abbrev e9:E:=.op .isin (.var 1) (.tup (.cons (.gl "BUILD" (.int 1)) (.cons (.gl "TEAR" (.int 2)) (.cons (.gl "TELL" (.int 3)) (.cons (.gl "SOLVE" (.int 16)) (.cons (.gl "FILL" (.int 17)) (.cons (.gl "CLEAR" (.int 20)) (.cons (.gl "ASK" (.int 21)) (.cons (.gl "TURN" (.int 22)) (.cons (.gl "MIRROR" (.int 23)) .nil))))))))))
abbrev e6:E:=.op .isin (.var 1) (.tup (.cons (.gl "COUNT" (.int 9)) (.cons (.gl "NTH" (.int 10)) (.cons (.gl "SURE" (.int 11)) (.cons (.gl "COULD" (.int 12)) (.cons (.gl "KNOWN" (.int 13)) (.cons (.gl "SPARE" (.int 18)) .nil)))))))
def nD (n:Nat):D:=.obj ["n"] [iN n]
theorem RE (n:Nat):pX (nD n) "n" = some (iN n):=by
 show look "n" ["n"] _=_
 unfold look;rw [if_pos rfl]
theorem ok (F:pG K "answer_call" "answer_call" sS f fd) (W:Wd K mg C) (p:Ps ⟨P,w,K,mg,base,k⟩) (hb:qQ ⟨P,w,K,mg,base,k⟩ "answer_back" Dback.nN (VB K C Dback.res)) (ha:qQ ⟨P,w,K,mg,base,k⟩ "answer_again" Dagain.nN (VB K C Dagain.res))
  (J4:qQ ⟨P,w,K,mg,base,k⟩ "answer_change" Dchange.pP (Zc K C)) (X4:fH ⟨P,w,K,mg,base,k⟩ "answer_of_ways" (M4 tT)) (hlk:fH ⟨P,w,K,mg,base,k⟩ "answer_look" Mz):eI P w K mg base ia (k+1) f fd nN (Zd K C):=by
 refine F.ok sc (fun vs H Q E h=>?_) (fun eU A0 outer s H vs Q E hr h=>?_)
 ·obtain ⟨_,_,_,_,_,_,_,rfl,_⟩:=h
  rfl
 ·obtain ⟨A,gp,F0,ow,sb,n,xs,rfl,t,wf,Ry,h1,FK,hl,q⟩:=h
  have G:Good (gY ia P w K mg base nN "answer_call" (ai sS) f eU A0 outer s H E).qC k:=⟨hr,rfl,sc.nd,W.bl⟩
  refine ⟨_,aE (fw (mT (.op .eq (.fld (.var 0) "n") (.int 0))) (br (b5 (mF (x1 (.gl "NOT_BEGUN" (.int (-61))))))) c_)
   (aE (fw (mT (tq "BACK" 25)) (br (b5 (mC hb (bp (pv 0) cx)))) c_)
   (aE (fw (mT (tq "AGAIN" 26)) (br (b5 (mC ha (bp (pv 0) cx)))) c_)
   (aE (fw (mT e9) (br (b5 (mC J4 (bp (pv 0) (bp (pv 1) (bp (pv 2) cx)))))) c_)
   (aE (fw (mT e6) (br (b5 (mE (.call "answer_of_ways" (M4 tT) (x3 (.var 0) (.var 1) (.var 2)))))) c_)
   (br (b5 (mE (.call "answer_look" Mz (x3 (.var 0) (.var 1) (.var 2)))))))))),?_⟩
  obtain ⟨dx,gs,y1,y2,_⟩:=t.ex
  refine gj (ρ:=[some (nD (qt sb).now.n),none,none]) (aA (yQ y1 W.T.cl (gE W.T.n y2 tO) (bB (bO _) bU)) (ak (ak aI))) (bu (cv (ah rfl) (RE _)) bb (fA (b:=0))) fun H1 s1=>?_
  have t1:=t.same s1
  have nO:jZ A F0 H ow F0 H1 ow:=jZ.refl.same s1
  cases sb with
  | none =>
   rw [decide_eq_true (show (qt none).now.n=0 from rfl),if_pos rfl]
   rw [y8 h1 FK] at q
   exact jg (ρ:=[none,none,none]) (ak (ak (ak aI))) (ao bW aJ) fun z vs H2 s2 np hp _ dl=>gF (r:=aw (-61)) t1 nO s2 np hp dl rfl (by decide) fun v F' H' w' t' kz d'=>q v F' H' w' t' kz (xx kz t'.fh d')
  | some a =>
   have wf:Ms a:=wf
   have t1:TS K C F0 H1 A ow a:=t1
   have W2:=wf.now.lo
   rw [decide_eq_false (show ¬(qt (some a)).now.n=0 by show ¬a.now.n=0;omega),if_neg (by decide)]
   have zR:∀{H2:Hp},Slots K H2 [some (.ref A),some (.int n),some (.ref gp)] [none,some (iN n),none]:=ak (aA (bO _) (ak aI))
   refine gj zR (je rfl) fun H2 s2=>?_
   have t2:=t1.same s2
   have q_:=nO.same s2
   by_cases VF:n=25
   ·rw [decide_eq_true VF,if_pos rfl]
    subst VF
    rw [show kZ 25 xs=.back from rfl,yZ] at q
    exact ⟨_,rfl,A,F0,ow,a,rfl,t2,wf,fun v F' H' w' t' kz d'=>q v F' H' w' t' (q_.trans kz) (xx (q_.trans kz) t'.fh d')⟩
   ·rw [decide_eq_false VF,if_neg (by decide)]
    refine gj zR (je rfl) fun H3 s3=>?_
    have t3:=t2.same s3
    have oj:=q_.same s3
    by_cases VG:n=26
    ·rw [decide_eq_true VG,if_pos rfl]
     subst VG
     rw [show kZ 26 xs=.again from rfl,vJ] at q
     exact ⟨_,rfl,A,F0,ow,a,rfl,t3,wf,fun v F' H' w' t' kz d'=>q v F' H' w' t' (oj.trans kz) (xx (oj.trans kz) t'.fh d')⟩
    ·rw [decide_eq_false VG,if_neg (by decide)]
     have e9v:∀{ρ:eA},fv ρ 1=some (iN n)→bF e9 ρ=some (.bl (decide (n∈yY))):=fun h=>bu (ah h) (tj (ao bW (ao bW (ao bW (ao bW (ao bW (ao bW (ao bW (ao bW (ao bW aJ)))))))))) (GZ rfl)
     have e6v:∀{ρ:eA},fv ρ 1=some (iN n)→bF e6 ρ=some (.bl (decide (n∈tT))):=fun h=>bu (ah h) (tj (ao bW (ao bW (ao bW (ao bW (ao bW (ao bW aJ))))))) (GZ rfl)
     refine gj zR (e9v rfl) fun H4 s4=>?_
     have t4:=t3.same s4
     have vo:=oj.same s4
     by_cases pc:n∈yY
     ·rw [decide_eq_true pc,if_pos rfl]
      rw [BN pc hl wf.now] at q
      exact ⟨_,rfl,_,rfl,_,rfl,A,gp,F0,ow,a,n,xs,rfl,t4,wf,Ry,pc,hl,fun v F' H' w' t' kz d'=>q v F' H' w' t' (vo.trans kz) (xx (vo.trans kz) t'.fh d')⟩
     ·rw [decide_eq_false pc,if_neg (by decide)]
      refine gj zR (e6v rfl) fun H5 s5=>?_
      have t5:=t4.same s5
      have uh:=vo.same s5
      have pF:xs.length≤1000:=by
       rw [hl]
       have h3:∀x∈arity,x≤3:=by decide
       rw [aj]
       cases hx:arity[n]? with
       | none=>exact c8 _
       | some y=>have:=h3 y (b7 hx);show y≤1000;omega
      let PH:Hp:=part (fun b=>ow.has A b∨b=gp) H5
      have pat:∀b,ow.has A b→PH b=H5 b:=fun b hb=>oQ (.inl hb)
      have dg:Den K PH (iL xs) (.ref gp):=nJ ((oQ (.inr rfl)).trans (t5.fh _ _ Ry)) pF
      have fin:∀{v:V} {F1 H6:Hp} {r:aT},Ext PH H5 F1 H6→Den K F1 (dq r) v→aY (some a) (kZ n xs)=(some a,r)→Q v H6:=fun {v F1 H6 r} ex dv hd=>by
       rw [hd] at q
       obtain ⟨pa,rfl,h⟩:=tS dv
       refine q _ F0 H6 ow (t5.same ex.hh) (uh.same ex.hh) ⟨pa,rfl,ex.fh _ _ h,?_⟩
       rcases Ext.from ex h with e|e
       ·rcases xu e with e|e
        ·exact .inr (.inl e)
        ·exact .inl (by rw [e,Ry];exact fun z=>nomatch z)
       ·exact .inr (.inr (uh.zQ _ e))
      have Ze:Slots K PH [some (.ref A),some (.int n),some (.ref gp)] [some (tD a.now),some (iN n),some (iL xs)]:=aA (t5.Om W.T wf.now (pat _ (.inl rfl)) (pat _ (.inr (.inl rfl))) (pat _ (.inr (.inr (.inl rfl))))) (aA (bO _) (aA dg aI))
      by_cases pw:n∈tT
      ·rw [decide_eq_true pw,if_pos rfl]
       exact ⟨PH,_,_,gN,Ze,aL §3 (Pn wf.now pw hl),fun v F1 H6 ex dv=>fin ex dv (oS (bE.mpr (.inl pw)))⟩
      ·rw [decide_eq_false pw,if_neg (by decide)]
       rcases kinds h1 FK with h|h|h|h|h|rfl
       ·exact absurd h VF
       ·exact absurd h VG
       ·exact absurd h pc
       ·exact absurd h pw
       ·exact ⟨PH,_,_,gN,Ze,aL §3 (US (Pn wf.now h hl)),fun v F1 H6 ex dv=>fin ex dv (oS (bE.mpr (.inr h)))⟩
       ·obtain rfl:=GV hl
        have we:=wf.we
        exact ⟨PH,[some (xo (a.now,a.undo.length,a.redo.length)),some (iN 27),some (iL [])],_,gN,aA (t5.XF W.T wf.now (by omega) (by omega) pat) (aA (bO _) (aA dg aI)),aL §3 (RC wf.now),fun v F1 H6 ex dv=>fin ex dv rfl⟩
end Dcall
theorem RF (l:List Nat) (i:Nat):bj ((zs l).getD i 0)=l.getD i 0:=by
 unfold bj zs
 rw [aj,aj,b8]
 cases l[i]?<;>rfl
theorem Ox {p:Nat} {xs:List Nat} (h1:1≤p) (FK:p≤27):(Cl.op p xs).call=kZ p xs:=by
 have g:=RF (p::xs)
 have e:(Cl.op p xs).call=match bj ((zs (p::xs)).getD 0 0) with
  | 0=>Kh321.Call.start (bj ((zs (p::xs)).getD 1 0)) (rP ([zs (p::xs)].getD 1 []))
  | 1=>.build (bj ((zs (p::xs)).getD 1 0)) (bj ((zs (p::xs)).getD 2 0))
  | 2=>.tear (bj ((zs (p::xs)).getD 1 0))
  | 3=>.tell (bj ((zs (p::xs)).getD 1 0)) (bj ((zs (p::xs)).getD 2 0)) (bj ((zs (p::xs)).getD 3 0))
  | 4=>.at_ (bj ((zs (p::xs)).getD 1 0))
  | 5=>.seen (bj ((zs (p::xs)).getD 1 0)) (bj ((zs (p::xs)).getD 2 0))
  | 6=>.clue (bj ((zs (p::xs)).getD 1 0)) (bj ((zs (p::xs)).getD 2 0))
  | 7=>.clash|8=>.done|9=>.count
  | 10=>.nth (bj ((zs (p::xs)).getD 1 0))
  | 11=>.sure (bj ((zs (p::xs)).getD 1 0))
  | 12=>.could (bj ((zs (p::xs)).getD 1 0))
  | 13=>.known
  | 14=>.line (bj ((zs (p::xs)).getD 1 0)) (bj ((zs (p::xs)).getD 2 0))
  | 15=>.hint|16=>.solve
  | 17=>.fill (bj ((zs (p::xs)).getD 1 0))
  | 18=>.spare|19=>.views|20=>.clear|21=>.ask|22=>.turn|23=>.mirror|24=>.text|25=>.back|26=>.again
  | _=>.state:=rfl
 rw [e,g 0,g 1,g 2,g 3]
 have:p=1∨p=2∨p=3∨p=4∨p=5∨p=6∨p=7∨p=8∨p=9∨p=10∨p=11∨p=12∨p=13∨p=14∨p=15∨p=16∨p=17∨p=18∨p=19∨p=20∨p=21∨p=22∨p=23∨p=24∨p=25∨p=26∨p=27:=by omega
 rcases this with rfl|rfl|rfl|rfl|rfl|rfl|rfl|rfl|rfl|rfl|rfl|rfl|rfl|rfl|rfl|rfl|rfl|rfl|rfl|rfl|rfl|rfl|rfl|rfl|rfl|rfl|rfl<;>rfl
theorem C5 {n:Nat} {t:List Nat}:(Cl.st n t).call=.start n t:=by
 have e:(Cl.st n t).call=.start (bj (n:Int)) (rP (zs t)):=rfl
 rw [e]
 congr 1
 unfold rP zs
 rw [a8]
 have:(bj∘fun x:Nat=>(x:Int))=id:=rfl
 rw [this,A8]
theorem Fn {s:Option aD} {n:Nat} {b:List Nat}:qt (aY s (.start n b)).1=(kR (qt s) n b).1∧(aY s (.start n b)).2=(kR (qt s) n b).2:=by
 have e:aY s (.start n b)=if n < 1∨4 < n then (s,aw (-22)) else (match eO n b with|some x=>(some ⟨⟨n,x.1,x.2⟩,[],[]⟩,aw (aB x.1))|none=>(s,aw (-71))):=by
  cases s<;>rfl
 rw [e]
 unfold kR
 split
 ·exact ⟨rfl,rfl⟩
 ·cases eO n b<;>exact ⟨rfl,rfl⟩
theorem MA {s:Option aD} {n:Nat} {b:List Nat} (wf:Ov s):Ov (aY s (.start n b)).1:=by
 have e:aY s (.start n b)=if n < 1∨4 < n then (s,aw (-22)) else (match eO n b with|some x=>(some ⟨⟨n,x.1,x.2⟩,[],[]⟩,aw (aB x.1))|none=>(s,aw (-71))):=by
  cases s<;>rfl
 rw [e]
 by_cases hn:n < 1∨4 < n
 ·rw [if_pos hn];exact wf
 ·rw [if_neg hn]
  by_cases h:qf n (fq b)=true∧vG n (fq b)=true
  ·obtain ⟨x,hx,_,_,VD⟩:=ES (b:=b) (by omega) (by omega) rfl h.1 h.2
   rw [hx]
   exact ⟨VD,fun g hg=>by simp at hg,by simp⟩
  ·rw [CG (b:=b) rfl h];exact wf
theorem MB {l:List Nat} {i j:Nat} (hi:i≤l.length) (hj:j≤l.length):DT (vL l) (some (i:Int)) (some (j:Int))=vL ((l.drop i).take (j - i)):=by
 unfold DT
 rw [wW (k:=i) (show RZ _ 0 (some (i:Int))=some i from congrArg some (by rw [eu];exact e_ hi)),wW (k:=j) (show RZ _ _ (some (j:Int))=some j from congrArg some (by rw [eu];exact e_ hj))]
 unfold vL
 rw [←pA,←pz]
theorem IL {l:List Nat} {i x:Nat} (h:l[i]?=some x):OU (vL l) (i:Int)=some (.int x):=by
 unfold OU
 rw [Fe (cw.mp h).1]
 show (vL l)[i]?=_
 unfold vL
 rw [b8,h];rfl
theorem MC (r:aT):(u4 r).map V.int=aV r:=by
 unfold u4 aV vL
 rw [aN,a8];rfl
theorem Oy {a:Addr} {H:Hp} {l:List V} (h:eS K H a l):eS K (part (·=a) H) a l:=by
 rcases h with (h|⟨o,h⟩)|h
 ·exact .inl (.inl ((oQ (p:=(·=a)) rfl).trans h))
 ·exact .inl (.inr ⟨o,(oQ (p:=(·=a)) rfl).trans h⟩)
 ·exact .inr h
theorem IM {a:Addr} {F H:Hp} {l:List V} (s:bT F H) (h:eS K F a l):eS K H a l:=by
 rcases h with (h|⟨o,h⟩)|h
 ·exact .inl (.inl (s _ _ h))
 ·exact .inl (.inr ⟨o,s _ _ h⟩)
 ·exact .inr h
def IP (K:aa):Sp:=fun vs H Q _=>∃(a:Addr) (ks:List Cl),vs=[.ref a]∧eS K H a (vL (ks.flatMap Cl.flat))∧(∀c∈ks,c.Wf)∧(kj none ks).length≤10000000∧∀H' p,H' p=some (.lst ((kj none ks).map V.int))→Q (.ref p) H'
theorem ari {p:Nat} {xs:List Nat} (h1:1≤p) (FK:p≤27) (h:xs.length+1=q5.getD p 0):xs.length=arity.getD p 0:=by
 have:p=1∨p=2∨p=3∨p=4∨p=5∨p=6∨p=7∨p=8∨p=9∨p=10∨p=11∨p=12∨p=13∨p=14∨p=15∨p=16∨p=17∨p=18∨p=19∨p=20∨p=21∨p=22∨p=23∨p=24∨p=25∨p=26∨p=27:=by omega
 rcases this with rfl|rfl|rfl|rfl|rfl|rfl|rfl|rfl|rfl|rfl|rfl|rfl|rfl|rfl|rfl|rfl|rfl|rfl|rfl|rfl|rfl|rfl|rfl|rfl|rfl|rfl|rfl<;>exact Nat.succ.inj h
namespace Dans
def nN:List Str:=["calls","town","answered","place","call","behind","answer"]
def pP:List Str:=["calls"]
abbrev sS:Stmt:=top 132
theorem sc:aR nN pP (ai sS):=⟨rfl,rfl,rfl,by decide +kernel,rfl,by decide +kernel,by decide +kernel⟩
theorem RG {p:Nat} (h1:1≤p) (FK:p≤27):Gf (.tup (arity.map iN)) (iN p)=some (iN (arity.getD p 0)):=by
 show RY (arity.map iN) (p:Int)=_
 have hp:p < arity.length:=by show p < 28;omega
 exact Pj hp
def Pu (K:aa) (C a A r:Addr) (KS:List Cl) (m:Nat) (σ:L2.St) (H':Hp):Prop:=∃(ks:List Cl) (pre:List Nat) (sb:Option aD) (F:Hp) (ow:Own) (out:List Int) (x4 x5 x6:Option V),m=ks.length∧KS.flatMap Cl.flat=pre++ks.flatMap Cl.flat∧σ=[some (.ref a),some (.ref A),some (.ref r),some (.int (pre.length:Nat)),x4,x5,x6]∧TS K C F H' A ow (qt sb)∧Ov sb∧eS K F a (vL (KS.flatMap Cl.flat)) ∧
 F r=none∧¬ow.has A r∧H' r=some (.lst (out.map V.int))∧kj none KS=out++kj sb ks∧(∀c∈ks,c.Wf)
theorem ok (F:pG K "answers" "answers" sS f fd) (W:Wd K mg C) (p:Ps ⟨P,w,K,mg,base,k+1⟩) (N:Nw ⟨P,w,K,mg,base,k⟩ C) (P5:qQ ⟨P,w,K,mg,base,k+1⟩ "answer_start" Dstart.pP (IJ K C)) (NF:qQ ⟨P,w,K,mg,base,k+1⟩ "answer_call" Dcall.nN (Zd K C)):eI P w K mg base ia (k+1+1) f fd pP (IP K):=by
 refine F.ok sc (fun vs H Q E h=>?_) (fun eU A0 outer s H vs Q E hr h=>?_)
 ·obtain ⟨_,_,rfl,_⟩:=h
  rfl
 ·obtain ⟨a,KS,rfl,hsq,hwf,RH,q⟩:=h
  have G:Good (gY ia P w K mg base nN "answers" (ai sS) f eU A0 outer s H E).qC (k+1):=⟨hr,rfl,sc.nd,W.bl⟩
  have X0:Gl (gY ia P w K mg base nN "answers" (ai sS) f eU A0 outer s H E).qC "len" := fX (by show pD (ai sS) "len" = true;decide +kernel)
  refine ⟨_,aE (dh (i:=1) sc.nd rfl (Or.inl rfl) (mN N))
   (aE (dh (i:=2) sc.nd rfl (Or.inl rfl) (mF .nil))
   (aE (dh (i:=3) sc.nd rfl (Or.inl rfl) rR)
   (aE (DM PassesOwn.never (Hm OR (pv 3) (DR sL X0 W.bl.len PySem.boot_len (bp (pv 0) cx)) rfl)
    (aE (dh (i:=4) sc.nd rfl (Or.inl rfl) (Hv wO (pv 0) (pv 3) (fun _ _=>rfl)))
    (aE (fw (mT (.op .eq (.var 4) (.gl "START" (.int 0))))
     (aE (dh (i:=5) sc.nd rfl (Or.inl rfl) (xI Ky (mE (.op .add (.var 3) (.int 3))) (Hv wO (pv 0) (mE (.op .add (.var 3) (.int 2))) (fun _ _=>rfl))))
      (br (dh (i:=6) sc.nd rfl (Or.inl rfl) (hc (sc:=ai sS) (k:=k+1) P5 G rfl (by decide +kernel) (bp (pv 1) (bp (Hv wO (pv 0) (mE (.op .add (.var 3) (.int 1))) (fun _ _=>rfl)) (bp (xJ B6 (pv 0) (sD (mE (.op .add (.var 3) (.int 3)))) (sD (pv 5))) cx))) rfl rfl))))
     (aE (dh (i:=5) sc.nd rfl (Or.inl rfl) (mE (.op .add (.op .add (.var 3) (.int 1)) (.ix (.gl "NUMBERS_BEHIND" (.tup (arity.map iN))) (.var 4)))))
      (br (dh (i:=6) sc.nd rfl (Or.inl rfl) (hc (sc:=ai sS) (k:=k+1) NF G rfl (by decide +kernel) (bp (pv 1) (bp (pv 4) (bp (xJ B6 (pv 0) (sD (mE (.op .add (.var 3) (.int 1)))) (sD (pv 5))) cx))) rfl rfl)))))
    (aE (iT (sM PySem.F.plainAttrs_list PySem.F.slot_list_append PySem.F.type_list_append nR (pv 2) (bp (mE (.un .len (.var 6))) cx)))
    (aE (iT (sM PySem.F.plainAttrs_list PySem.F.slot_list_extend PySem.F.type_list_extend um (pv 2) (bp (pv 6) cx)))
    (br (dh (i:=3) sc.nd rfl (Or.inl rfl) (pv 5))))))))
   (br (b5 (pv 2)))))),?_⟩
  have hz:(10000000:Nat)≤sizeLine:=by decide
  intro A UR nx nd kI
  refine ⟨A,UR,rfl,aK,fun H1 w1 m=>⟨rfl,?_⟩⟩
  obtain ⟨t1,s1,aa7⟩:=m.town (K:=K) (F:=part (·=a) H) nx nd gN
  change vP (J8 K (jO .nil)) (kU 2) _ [some (.ref a),some (.ref A),none,none,none,none,none] _
  refine jg (ρ:=[none,none,none,none,none,none,none]) (ak (ak (ak (ak (ak (ak (ak aI))))))) aJ fun r us H2 s2 nr hr2 _ dl2=>?_
  obtain rfl:=bL dl2
  have t2:=t1.same s2
  refine ⟨Pu K C a A r KS,
   ⟨_,KS,[],none,_,w1,[],none,none,none,rfl,rfl,rfl,t2,trivial,Oy hsq,same_none t1.fh nr,fun h=>t1.has h nr,hr2,rfl,hwf⟩,?_⟩
  rintro m σ H3 ⟨ks,pre,sb,F3,ow,out,x4,x5,x6,rfl,NT,rfl,t3,X6,Zf,Sz,or3,UU,UW,UX⟩
  have RI:∀{H4:Hp},bT H3 H4→eS K H4 a (vL (KS.flatMap Cl.flat)):=fun s4=>IM (t3.fh.trans s4) Zf
  refine ⟨_,rfl,_,rfl,a,_,rfl,.inl (RI (same_refl H3)),_,_,rfl,rfl,_,rfl,?_⟩
  rw [eu,NT,ax]
  cases ks with
  | nil =>
   rw [decide_eq_false (show ¬((pre.length:Nat):Int) < ((pre.length+(([]:List Cl).flatMap Cl.flat).length:Nat):Int) by simp),if_neg (by decide)]
   refine ⟨_,rfl,q H3 r ?_⟩
   rw [UW]
   show _=some (HO.lst ((out++[]).map V.int))
   rw [fT];exact UU
  | cons c ks =>
   have Zg:1≤c.flat.length:=by cases c<;>(show 1≤_+1;omega)
   rw [decide_eq_true (show ((pre.length:Nat):Int) < ((pre.length+((c::ks).flatMap Cl.flat).length:Nat):Int) by rw [b_,ax];omega),if_pos rfl]
   refine ⟨_,fun fb H' h=>h,?_⟩
   have hN:KS.flatMap Cl.flat=pre++(c.flat++ks.flatMap Cl.flat):=by rw [NT,b_]
   have Zh:=UX c (by simp)
   have Oz:∀i x,c.flat[i]?=some x→(KS.flatMap Cl.flat)[pre.length+i]?=some x:=fun i x hx=>by
    rw [hN,iJ (by omega),gG,i5 (cw.mp hx).1,hx]
   have leN:pre.length+c.flat.length≤(KS.flatMap Cl.flat).length:=by rw [hN,ax,ax];omega
   have Pw:kj none KS=(out++((u4 (aY sb c.call).2).length:Int)::u4 (aY sb c.call).2)++kj (aY sb c.call).1 ks:=by
    rw [UW]
    show out++(((u4 (aY sb c.call).2).length:Int)::(u4 (aY sb c.call).2++kj (aY sb c.call).1 ks))=_
    simp
   have hlen:out.length+(1+(aV (aY sb c.call).2).length)≤10000000:=by
    have h:=RH
    rw [Pw,ax,ax,ay] at h
    have:(u4 (aY sb c.call).2).length=(aV (aY sb c.call).2).length:=by rw [←MC,af]
    omega
   have fin:∀(EN:Ends),(∀fb H',(∃m',m' < (c::ks).length∧Pu K C a A r KS m' fb H')→EN.nx fb H')→∀(x4:Option V) (bh:Nat) (pa:Addr) (F' H':Hp) (w':Own),bh=pre.length+c.flat.length→TS K C F' H' A w' (qt (aY sb c.call).1)→Ov (aY sb c.call).1→bT F3 F'→F' r=none→¬w'.has A r→H' r=some (.lst (out.map V.int))→H' pa=some (.lst (aV (aY sb c.call).2))→pa≠r →
     Nj (DK (SX K "list" Hw (rQ 2) (DP (tM K (bF (.un .len (.var 6)))) Jb))) (Nj (DK (SX K "list" Hx (rQ 2) (DP (rQ 6) Jb))) (vP (rQ 5) (kU 3))) EN [some (.ref a),some (.ref A),some (.ref r),some (.int (pre.length:Nat)),x4,some (.int (bh:Nat)),some (.ref pa)] H':=fun EN hD x4 bh pa F' H' w' hbh t' wf' sF fr X7 Vt HM kI=>by
    have abb:(aV (aY sb c.call).2).length=(aY sb c.call).2.out.length+1:=by unfold aV;rw [ay,eu]
    have da:Den K H' (dq (aY sb c.call).2) (.ref pa):=f9 (by rw [ay,af];omega) HM (CS _)
    refine ⟨_,rfl,.inl ⟨rfl,_,eS.of Vt⟩,?_⟩
    refine gD (ρ:=[none,none,none,none,none,none,some (dq (aY sb c.call).2)]) (ak (ak (ak (ak (ak (ak (aA da aI))))))) (fC (ah rfl) rfl) fun u H5 s5 du=>?_
    obtain rfl:=bD du
    have t5:=t'.same s5
    refine ⟨r,_,_,rfl,rfl,s5 _ _ Vt,by rw [af];omega,?_⟩
    refine ⟨_,rfl,.inl ⟨rfl,_,eS.of aK⟩,_,rfl,r,pa,_,_,rfl,rfl,aK,by rw [aM kI];exact s5 _ _ HM,by rw [ax,af];show _+1+_≤_;omega,?_⟩
    refine ⟨_,rfl,hD _ _ ?_⟩
    refine ⟨_,qB _,ks,pre++c.flat,(aY sb c.call).1,F',w',out++((u4 (aY sb c.call).2).length:Int)::u4 (aY sb c.call).2,x4,some (.int (bh:Nat)),some (.ref pa),rfl,by rw [hN,de],?_,(t5.off X7 fr _).off X7 fr _,wf',IM sF Zf,fr,X7,?_,Pw,fun c' Va=>UX c' (by simp [Va])⟩
    ·subst hbh;rw [ax];rfl
    ·rw [aK]
     congr 2
     rw [bo,aN,MC,de]
     congr 2
     show [V.int (((D.int (aY sb c.call).2.ret::(aY sb c.call).2.out.map iN).length:Nat):Int)]++aV _=_
     rw [List.singleton_append,ay,af]
     unfold u4
     rw [ay,af]
   cases c with
   | st n b =>
    obtain ⟨abc,UY,_⟩:=Zh
    have fl:(Cl.st n b).flat.length=3+b.length:=by show b.length+1+1+1=_;omega
    refine ⟨_,rfl,_,rfl,a,_,_,_,rfl,rfl,RI (same_refl H3),IL (x:=0) (Oz 0 0 rfl),?_⟩
    have sl:∀{H4:Hp} {o5 o6:Option V} {z:V},Slots K H4 [some (.ref a),some (.ref A),some (.ref r),some (.int (pre.length:Nat)),some (.int (0:Nat)),o5,o6] [none,none,none,some (iN pre.length),some (iN 0),none,none]:=ak (ak (ak (aA (bO _) (aA (bO _) (ak (ak aI))))))
    refine gj (sl (z:=.gg)) (bu (ah rfl) bW (fA (a:=0) (b:=0))) fun H4 s4=>?_
    rw [decide_eq_true rfl,if_pos rfl]
    refine gD (sl (z:=.gg)) (bu (ah rfl) bb (d_ (b:=3))) fun u H5 s5 du=>?_
    obtain rfl:=bD du
    have X8:=s4.trans s5
    refine ⟨_,rfl,?_⟩
    refine gD (sl (z:=.gg)) (bu (ah rfl) bb (d_ (b:=2))) fun u H6 s6 du=>?_
    obtain rfl:=bD du
    have RJ:=X8.trans s6
    refine ⟨a,_,_,_,rfl,rfl,RI RJ,IL (Oz 2 b.length rfl),_,_,rfl,rfl,?_⟩
    refine ⟨_,rfl,_,rfl,?_⟩
    refine gD (ρ:=[none,none,none,some (iN pre.length),none,none,none]) (ak (ak (ak (aA (bO _) (ak (ak (ak aI))))))) (bu (ah rfl) bb (d_ (b:=1))) fun u H7 s7 du=>?_
    obtain rfl:=bD du
    have Zi:=RJ.trans s7
    refine ⟨a,_,_,_,rfl,rfl,RI Zi,IL (Oz 1 n rfl),_,rfl,?_⟩
    refine gD (ρ:=[none,none,none,some (iN pre.length),none,none,none]) (ak (ak (ak (aA (bO _) (ak (ak (ak aI))))))) (bu (ah rfl) bb (d_ (b:=3))) fun u H8 s8 du=>?_
    obtain rfl:=bD du
    have VH:=Zi.trans s8
    have ebh:((pre.length+3:Nat):Int)+((b.length:Nat):Int)=((pre.length+3+b.length:Nat):Int):=by omega
    refine ⟨_,rfl,_,rfl,_,rfl,a,_,rfl,RI VH,fun tp np=>?_⟩
    rw [ebh,MB (by omega) (by omega)]
    have RK:(((KS.flatMap Cl.flat).drop (pre.length+3)).take (pre.length+3+b.length - (pre.length+3)))=b:=by
     rw [hN,←DF,DG,gG]
     show ((b++ks.flatMap Cl.flat)).take b.length=b
     rw [List.take_left]
    rw [RK]
    have t8:=t3.same VH
    have Pt:=d8 np (.lst (vL b))
    have t9:=t8.same Pt
    obtain ⟨n1,n2,n3,n4,n5⟩:=t8.new np
    have ntp:¬ow.has A tp:=fun h=>t8.has h np
    have hrt:r≠tp:=bP (VH _ _ UU) np
    refine ⟨A,tp,F3,ow,qt sb,n,b,rfl,t9,aK,n1,ntp,UY,fun v F' H' w' t' kz d'=>?_⟩
    obtain ⟨UG,Nm⟩:=Fn (s:=sb) (n:=n) (b:=b)
    rw [←UG] at t'
    rw [←Nm] at d'
    obtain ⟨pa,rfl,HM⟩:=tS d'
    have X9:upd H8 tp (.lst (vL b)) r=some (.lst (out.map V.int)):=Pt _ _ (VH _ _ UU)
    have hOr:¬(ow.has A r∨r=tp):=fun h=>h.elim or3 hrt
    have VI:F' r=none:=kz.nw r Sz (by rw [X9];exact fun e=>nomatch e)
    refine fin _ (fun fb H' h=>h) _ (pre.length+3+b.length) pa F' H' w' (by rw [fl];omega) (by rw [C5];exact t') (by rw [C5];exact MA X6) kz.ff VI (fun h=>(kz.ow r h).elim hOr fun e=>by rw [X9] at e;cases e) (kz.keep r _ X9 hOr) (by rw [C5];exact t'.fh _ _ HM) (fun e=>by rw [e,VI] at HM;cases HM)
   | op n xs =>
    obtain ⟨h1,FK,hsz,_⟩:=Zh
    have hl:=ari h1 FK hsz
    have fl:(Cl.op n xs).flat.length=1+xs.length:=by show xs.length+1=_;omega
    refine ⟨_,rfl,_,rfl,a,_,_,_,rfl,rfl,RI (same_refl H3),IL (x:=n) (Oz 0 n rfl),?_⟩
    have sl:∀{H4:Hp} {o5 o6:Option V} {z:V},Slots K H4 [some (.ref a),some (.ref A),some (.ref r),some (.int (pre.length:Nat)),some (.int (n:Nat)),o5,o6] [none,none,none,some (iN pre.length),some (iN n),none,none]:=ak (ak (ak (aA (bO _) (aA (bO _) (ak (ak aI))))))
    refine gj (sl (z:=.gg)) (bu (ah rfl) bW (fA (b:=0))) fun H4 s4=>?_
    rw [decide_eq_false (show ¬n=0 by omega),if_neg (by decide)]
    refine gD (sl (z:=.gg)) (bu (bu (ah rfl) bb (d_ (b:=1))) (fE bW (ah rfl) (RG h1 FK)) d_) fun u H5 s5 du=>?_
    obtain rfl:=bD du
    have X8:=s4.trans s5
    refine ⟨_,rfl,_,rfl,_,rfl,?_⟩
    refine gD (ρ:=[none,none,none,some (iN pre.length),none,none,none]) (ak (ak (ak (aA (bO _) (ak (ak (ak aI))))))) (bu (ah rfl) bb (d_ (b:=1))) fun u H6 s6 du=>?_
    obtain rfl:=bD du
    have RJ:=X8.trans s6
    refine ⟨_,rfl,_,rfl,_,rfl,a,_,rfl,RI RJ,fun gp np=>?_⟩
    rw [MB (by omega) (by omega)]
    have RK:(((KS.flatMap Cl.flat).drop (pre.length+1)).take (pre.length+1+arity.getD n 0 - (pre.length+1)))=xs:=by
     rw [hN,←DF,DG,gG,←hl]
     show ((xs++ks.flatMap Cl.flat)).take xs.length=xs
     rw [List.take_left]
    rw [RK]
    have t6:=t3.same RJ
    have ex:=Ext.new t6.fh np (.lst (vL xs))
    have t7:=t6.ext ex
    have hrg:r≠gp:=bP (RJ _ _ UU) np
    refine ⟨A,gp,_,ow,sb,n,xs,rfl,t7,X6,aK,h1,FK,hl,fun v F' H' w' t' kz d'=>?_⟩
    obtain ⟨pa,rfl,HM,loc⟩:=d'
    have VJ:upd H6 gp (.lst (vL xs)) r=some (.lst (out.map V.int)):=ex.hh _ _ (RJ _ _ UU)
    have Zj:upd F3 gp (.lst (vL xs)) r=none:=by rw [aM hrg];exact Sz
    have VI:F' r=none:=kz.nw r Zj (by rw [VJ];exact fun e=>nomatch e)
    have MD:=Ox (xs:=xs) h1 FK
    refine fin _ (fun fb H' h=>h) _ (pre.length+1+arity.getD n 0) pa F' H' w' (by rw [fl,←hl];omega) (by rw [MD];exact t') (by rw [MD];exact My h1 FK hl X6) (ex.ff.trans kz.ff) VI (fun h=>(kz.ow r h).elim or3 fun e=>by rw [VJ] at e;cases e) (kz.keep r _ VJ or3) (by rw [MD];exact HM) (fun e=>?_)
    subst e
    rcases loc with e|e|e
    ·exact e Zj
    ·exact or3 e
    ·rw [VJ] at e;cases e
end Dans
end
end Tn
namespace Tn
open PySem PySem.Spec PyProof.Rows L2 Mi
theorem _root_.Mi.fH.mono {P:Program} {w:World} {K:aa} {mg:Str→Option Value} {base:Heap} {j k:Nat} {x:Str} {g:List D→Option D} (F:fH ⟨P,w,K,mg,base,j⟩ x g) (h:j≤k):fH ⟨P,w,K,mg,base,k⟩ x g:=by
 obtain ⟨f,fd,ps,F,r⟩:=F.ex
 exact ⟨f,fd,ps,F.mono h,r⟩
theorem _root_.Mi.qQ.mono {P:Program} {w:World} {K:aa} {mg:Str→Option Value} {base:Heap} {j k:Nat} {x:Str} {ps:List Str} {sp:Sp} (F:qQ ⟨P,w,K,mg,base,j⟩ x ps sp) (h:j≤k):qQ ⟨P,w,K,mg,base,k⟩ x ps sp:=by
 obtain ⟨f,fd,F,r⟩:=F.ex
 exact ⟨f,fd,F.mono h,r⟩
theorem Nw.mono {P:Program} {w:World} {K:aa} {mg:Str→Option Value} {base:Heap} {j k:Nat} {C:Addr} (F:Nw ⟨P,w,K,mg,base,j⟩ C) (h:j≤k):Nw ⟨P,w,K,mg,base,k⟩ C:=by
 obtain ⟨f,fd,M,F,r⟩:=F.ex
 exact ⟨f,fd,M,F.mono h,r⟩
structure Dd (K:aa) (mg:Str→Option Value) (x:Str) (i:Nat) (ps:List Str):Prop where
 ex:∃(f:Addr) (fd:FuncData),pG K x x (top i) f fd∧mg x=some (.ref f)∧Binds K fd ps []
section
variable {P:Program} {w:World} {K:aa} {mg:Str→Option Value} {base:Heap} {C:Addr}
theorem jG {k i:Nat} {x:Str} {N ps:List Str} {body:Ss} {g:List D→Option D} (D0:Dd K mg x i ps) (bl:Vp mg) (S:aR N ps (ai (top i))) (hc:bV N (ai (top i)) body (a_ (top i))=true) (ok:dj ⟨P,w,K,mg,base,k⟩ body) (by':∀ds d,g ds=some d→bN N.length body ds=some d) (ar:∀ds d,g ds=some d→ds.length=ps.length):fH ⟨P,w,K,mg,base,k+1⟩ x g:=by
 obtain ⟨f,fd,F,hm,hb⟩:=D0.ex
 exact ⟨f,fd,ps,Um (Ul F S hc ok bl) by',hm,F.kp,hb,ar⟩
theorem X_ {k i n:Nat} {x:Str} {ps:List Str} {g:List D→Option D} (D0:Dd K mg x i ps) (h:∀f fd,pG K x x (top i) f fd→eI P w K mg base ia k f fd ps (MZ K n g)) (hn:ps.length=n) (ar:∀ds d,g ds=some d→ds.length=ps.length):fH ⟨P,w,K,mg,base,k⟩ x g:=by
 subst hn
 obtain ⟨f,fd,F,hm,hb⟩:=D0.ex
 exact ⟨f,fd,ps,h f fd F,hm,F.kp,hb,ar⟩
theorem As {k i:Nat} {x:Str} {ps:List Str} {sp:Sp} (D0:Dd K mg x i ps) (h:∀f fd,pG K x x (top i) f fd→eI P w K mg base ia k f fd ps sp):qQ ⟨P,w,K,mg,base,k⟩ x ps sp:=by
 obtain ⟨f,fd,F,hm,hb⟩:=D0.ex
 exact ⟨f,fd,h f fd F,hm,F.kp,hb⟩
theorem cq {α:Type} {enc:α→List D} {pre:α→Prop} {out:α→D} {n:Nat} (h:∀x,(enc x).length=n):∀ds d,kd enc pre out ds=some d→ds.length=n:=fun ds d e=>by
 obtain ⟨x,rfl,_⟩:=bf e
 exact h x
theorem UZ:∀ds d,Mz ds=some d→ds.length=3:=fun ds d h=>by
 unfold Mz at h
 cases h1:M4 oR ds with
 | some e=>obtain ⟨x,rfl,_⟩:=bf h1;rfl
 | none=>rw [h1] at h;obtain ⟨x,rfl,_⟩:=bf h;rfl
theorem G0:aR ["town","cell"] ["town","cell"] (ai (top 8)):=⟨rfl,rfl,rfl,by decide +kernel,rfl,by decide +kernel,by decide +kernel⟩
theorem G1:bV ["town","cell"] (ai (top 8)) qK (a_ (top 8))=true:=by decide +kernel
theorem G2:aR ["town","side","i"] ["town","side","i"] (ai (top 9)):=⟨rfl,rfl,rfl,by decide +kernel,rfl,by decide +kernel,by decide +kernel⟩
theorem G3:bV ["town","side","i"] (ai (top 9)) qL (a_ (top 9))=true:=by decide +kernel
theorem Au:aR ["n","side","i","cells","y","x"] ["n","side","i"] (ai (top 10)):=⟨rfl,rfl,rfl,by decide +kernel,rfl,by decide +kernel,by decide +kernel⟩
theorem Av:bV ["n","side","i","cells","y","x"] (ai (top 10)) k8 (a_ (top 10))=true:=by decide +kernel
theorem qv:aR ["town","side","i","cell"] ["town","side","i"] (ai (top 11)):=⟨rfl,rfl,rfl,by decide +kernel,rfl,by decide +kernel,by decide +kernel⟩
theorem qw:bV ["town","side","i","cell"] (ai (top 11)) gH (a_ (top 11))=true:=by decide +kernel
theorem C6:aR ["town","side","i"] ["town","side","i"] (ai (top 12)):=⟨rfl,rfl,rfl,by decide +kernel,rfl,by decide +kernel,by decide +kernel⟩
theorem C7:bV ["town","side","i"] (ai (top 12)) mJ (a_ (top 12))=true:=by decide +kernel
theorem pj:aR ["town","height"] ["town"] (ai (top 13)):=⟨rfl,rfl,rfl,by decide +kernel,rfl,by decide +kernel,by decide +kernel⟩
theorem pq:bV ["town","height"] (ai (top 13)) f_ (a_ (top 13))=true:=by decide +kernel
theorem y9:aR ["town","clue"] ["town"] (ai (top 14)):=⟨rfl,rfl,rfl,by decide +kernel,rfl,by decide +kernel,by decide +kernel⟩
theorem y_:bV ["town","clue"] (ai (top 14)) nI (a_ (top 14))=true:=by decide +kernel
theorem Aw:aR ["towers","highest","number","height"] ["towers"] (ai (top 15)):=⟨rfl,rfl,rfl,by decide +kernel,rfl,by decide +kernel,by decide +kernel⟩
theorem Ax:bV ["towers","highest","number","height"] (ai (top 15)) k9 (a_ (top 15))=true:=by decide +kernel
theorem G4:aR ["heights","bits","height"] ["heights"] (ai (top 16)):=⟨rfl,rfl,rfl,by decide +kernel,rfl,by decide +kernel,by decide +kernel⟩
theorem G5:bV ["heights","bits","height"] (ai (top 16)) qM (a_ (top 16))=true:=by decide +kernel
theorem C8:aR ["town","side","i","towers","near","far","heights"] ["town","side","i"] (ai (top 26)):=⟨rfl,rfl,rfl,by decide +kernel,rfl,by decide +kernel,by decide +kernel⟩
theorem C9:bV ["town","side","i","towers","near","far","heights"] (ai (top 26)) mK (a_ (top 26))=true:=by decide +kernel
theorem JV:aR ["n","rows","length","longer","row","height"] ["n"] (ai (top 27)):=⟨rfl,rfl,rfl,by decide +kernel,rfl,by decide +kernel,by decide +kernel⟩
theorem JW:bV ["n","rows","length","longer","row","height"] (ai (top 27)) kD (a_ (top 27))=true:=by decide +kernel
theorem ME:aR ["heights","towers","height","tower"] ["heights","towers"] (ai (top 28)):=⟨rfl,rfl,rfl,by decide +kernel,rfl,by decide +kernel,by decide +kernel⟩
theorem MF:bV ["heights","towers","height","tower"] (ai (top 28)) xf (a_ (top 28))=true:=by decide +kernel
theorem OA:aR ["heights","near","far"] ["heights","near","far"] (ai (top 29)):=⟨rfl,rfl,rfl,by decide +kernel,rfl,by decide +kernel,by decide +kernel⟩
theorem OB:bV ["heights","near","far"] (ai (top 29)) Cn (a_ (top 29))=true:=by decide +kernel
theorem G6:aR ["found","place","way"] ["found","place"] (ai (top 30)):=⟨rfl,rfl,rfl,by decide +kernel,rfl,by decide +kernel,by decide +kernel⟩
theorem G7:bV ["found","place","way"] (ai (top 30)) qN (a_ (top 30))=true:=by decide +kernel
theorem G8:aR ["found","place","way"] ["found","place"] (ai (top 31)):=⟨rfl,rfl,rfl,by decide +kernel,rfl,by decide +kernel,by decide +kernel⟩
theorem G9:bV ["found","place","way"] (ai (top 31)) qO (a_ (top 31))=true:=by decide +kernel
theorem za:aR ["town","side","i","found","place"] ["town","side","i"] (ai (top 32)):=⟨rfl,rfl,rfl,by decide +kernel,rfl,by decide +kernel,by decide +kernel⟩
theorem zb:bV ["town","side","i","found","place"] (ai (top 32)) nE (a_ (top 32))=true:=by decide +kernel
theorem zc:aR ["town","told","side","i","found"] ["town"] (ai (top 33)):=⟨rfl,rfl,rfl,by decide +kernel,rfl,by decide +kernel,by decide +kernel⟩
theorem zd:bV ["town","told","side","i","found"] (ai (top 33)) nG (a_ (top 33))=true:=by decide +kernel
theorem qx:aR ["n","i"] ["n"] (ai (top 34)):=⟨rfl,rfl,rfl,by decide +kernel,rfl,by decide +kernel,by decide +kernel⟩
theorem qy:bV ["n","i"] (ai (top 34)) fY (a_ (top 34))=true:=by decide +kernel
theorem Ay:aR ["town","cells","found","place","cell"] ["town","cells","found"] (ai (top 35)):=⟨rfl,rfl,rfl,by decide +kernel,rfl,by decide +kernel,by decide +kernel⟩
theorem Az:bV ["town","cells","found","place","cell"] (ai (top 35)) lq (a_ (top 35))=true:=by decide +kernel
theorem C_:aR ["town","begun","i","rows","row","marks","cells"] ["town"] (ai (top 38)):=⟨rfl,rfl,rfl,by decide +kernel,rfl,by decide +kernel,by decide +kernel⟩
theorem Dc:bV ["town","begun","i","rows","row","marks","cells"] (ai (top 38)) mL (a_ (top 38))=true:=by decide +kernel
theorem rp:aR ["begun","rows","longer","marks","cells","row_marks","row"] ["begun","rows"] (ai (top 39)):=⟨rfl,rfl,rfl,by decide +kernel,rfl,by decide +kernel,by decide +kernel⟩
theorem rq:bV ["begun","rows","longer","marks","cells","row_marks","row"] (ai (top 39)) gr (a_ (top 39))=true:=by decide +kernel
theorem wj:aR ["row","marks","x","height"] ["row"] (ai (top 40)):=⟨rfl,rfl,rfl,by decide +kernel,rfl,by decide +kernel,by decide +kernel⟩
theorem wk:bV ["row","marks","x","height"] (ai (top 40)) js (a_ (top 40))=true:=by decide +kernel
theorem ze:aR ["town","cells","n","i"] ["town","cells"] (ai (top 41)):=⟨rfl,rfl,rfl,by decide +kernel,rfl,by decide +kernel,by decide +kernel⟩
theorem zf:bV ["town","cells","n","i"] (ai (top 41)) kf (a_ (top 41))=true:=by decide +kernel
theorem wm:aR ["town"] ["town"] (ai (top 42)):=⟨rfl,rfl,rfl,by decide +kernel,rfl,by decide +kernel,by decide +kernel⟩
theorem wo:bV ["town"] (ai (top 42)) ma (a_ (top 42))=true:=by decide +kernel
theorem AA:aR ["town","k","found"] ["town","k"] (ai (top 43)):=⟨rfl,rfl,rfl,by decide +kernel,rfl,by decide +kernel,by decide +kernel⟩
theorem AB:bV ["town","k","found"] (ai (top 43)) oG (a_ (top 43))=true:=by decide +kernel
theorem zg:aR ["town","cell","found"] ["town","cell"] (ai (top 44)):=⟨rfl,rfl,rfl,by decide +kernel,rfl,by decide +kernel,by decide +kernel⟩
theorem zh:bV ["town","cell","found"] (ai (top 44)) nB (a_ (top 44))=true:=by decide +kernel
theorem wq:aR ["town","cell"] ["town","cell"] (ai (top 45)):=⟨rfl,rfl,rfl,by decide +kernel,rfl,by decide +kernel,by decide +kernel⟩
theorem wt:bV ["town","cell"] (ai (top 45)) md (a_ (top 45))=true:=by decide +kernel
theorem wu:aR ["town","found","known","cell"] ["town"] (ai (top 46)):=⟨rfl,rfl,rfl,by decide +kernel,rfl,by decide +kernel,by decide +kernel⟩
theorem wx:bV ["town","found","known","cell"] (ai (top 46)) me (a_ (top 46))=true:=by decide +kernel
theorem wz:aR ["town","told","needed","spared","place","clue"] ["town"] (ai (top 54)):=⟨rfl,rfl,rfl,by decide +kernel,rfl,by decide +kernel,by decide +kernel⟩
theorem wA:bV ["town","told","needed","spared","place","clue"] (ai (top 54)) mm (a_ (top 54))=true:=by decide +kernel
theorem AD:aR ["full","told","wrong","place","clue"] ["full","told"] (ai (top 57)):=⟨rfl,rfl,rfl,by decide +kernel,rfl,by decide +kernel,by decide +kernel⟩
theorem AE:bV ["full","told","wrong","place","clue"] (ai (top 57)) lz (a_ (top 57))=true:=by decide +kernel
theorem wB:aR ["town","views"] ["town"] (ai (top 58)):=⟨rfl,rfl,rfl,by decide +kernel,rfl,by decide +kernel,by decide +kernel⟩
theorem wC:bV ["town","views"] (ai (top 58)) mh (a_ (top 58))=true:=by decide +kernel
theorem AF:aR ["town","views","side","i"] ["town"] (ai (top 60)):=⟨rfl,rfl,rfl,by decide +kernel,rfl,by decide +kernel,by decide +kernel⟩
theorem AG:bV ["town","views","side","i"] (ai (top 60)) lu (a_ (top 60))=true:=by decide +kernel
theorem De:aR ["town","cell"] ["town","cell"] (ai (top 69)):=⟨rfl,rfl,rfl,by decide +kernel,rfl,by decide +kernel,by decide +kernel⟩
theorem Df:bV ["town","cell"] (ai (top 69)) qb (a_ (top 69))=true:=by decide +kernel
theorem wD:aR ["town","cell","n","crossing","taken","other","height"] ["town","cell"] (ai (top 70)):=⟨rfl,rfl,rfl,by decide +kernel,rfl,by decide +kernel,by decide +kernel⟩
theorem wF:bV ["town","cell","n","crossing","taken","other","height"] (ai (top 70)) jt (a_ (top 70))=true:=by decide +kernel
theorem zi:aR ["town","side","i"] ["town","side","i"] (ai (top 71)):=⟨rfl,rfl,rfl,by decide +kernel,rfl,by decide +kernel,by decide +kernel⟩
theorem zj:bV ["town","side","i"] (ai (top 71)) nu (a_ (top 71))=true:=by decide +kernel
theorem zk:aR ["town","side","i"] ["town","side","i"] (ai (top 72)):=⟨rfl,rfl,rfl,by decide +kernel,rfl,by decide +kernel,by decide +kernel⟩
theorem zl:bV ["town","side","i"] (ai (top 72)) nv (a_ (top 72))=true:=by decide +kernel
theorem wG:aR ["town"] ["town"] (ai (top 73)):=⟨rfl,rfl,rfl,by decide +kernel,rfl,by decide +kernel,by decide +kernel⟩
theorem wH:bV ["town"] (ai (top 73)) l_ (a_ (top 73))=true:=by decide +kernel
theorem AH:aR ["town","pairs","i"] ["town"] (ai (top 74)):=⟨rfl,rfl,rfl,by decide +kernel,rfl,by decide +kernel,by decide +kernel⟩
theorem AI:bV ["town","pairs","i"] (ai (top 74)) k_ (a_ (top 74))=true:=by decide +kernel
theorem rz:aR ["towers","pairs","k","height"] ["towers"] (ai (top 75)):=⟨rfl,rfl,rfl,by decide +kernel,rfl,by decide +kernel,by decide +kernel⟩
theorem rA:bV ["towers","pairs","k","height"] (ai (top 75)) gu (a_ (top 75))=true:=by decide +kernel
theorem zm:aR ["town","wrong","side","i"] ["town"] (ai (top 76)):=⟨rfl,rfl,rfl,by decide +kernel,rfl,by decide +kernel,by decide +kernel⟩
theorem zo:bV ["town","wrong","side","i"] (ai (top 76)) kg (a_ (top 76))=true:=by decide +kernel
theorem Fo:aR ["clue","towers"] ["clue","towers"] (ai (top 77)):=⟨rfl,rfl,rfl,by decide +kernel,rfl,by decide +kernel,by decide +kernel⟩
theorem Fp:bV ["clue","towers"] (ai (top 77)) oF (a_ (top 77))=true:=by decide +kernel
theorem zp:aR ["town"] ["town"] (ai (top 78)):=⟨rfl,rfl,rfl,by decide +kernel,rfl,by decide +kernel,by decide +kernel⟩
theorem zq:bV ["town"] (ai (top 78)) ny (a_ (top 78))=true:=by decide +kernel
theorem wI:aR ["town"] ["town"] (ai (top 79)):=⟨rfl,rfl,rfl,by decide +kernel,rfl,by decide +kernel,by decide +kernel⟩
theorem wJ:bV ["town"] (ai (top 79)) jz (a_ (top 79))=true:=by decide +kernel
theorem AJ:aR ["text","lines","line","byte"] ["text"] (ai (top 87)):=⟨rfl,rfl,rfl,by decide +kernel,rfl,by decide +kernel,by decide +kernel⟩
theorem AK:bV ["text","lines","line","byte"] (ai (top 87)) lh (a_ (top 87))=true:=by decide +kernel
theorem Fq:aR ["n","lines","corners","line"] ["n","lines"] (ai (top 88)):=⟨rfl,rfl,rfl,by decide +kernel,rfl,by decide +kernel,by decide +kernel⟩
theorem Fs:bV ["n","lines","corners","line"] (ai (top 88)) oH (a_ (top 88))=true:=by decide +kernel
theorem AL:aR ["n","lines","cells","line"] ["n","lines"] (ai (top 89)):=⟨rfl,rfl,rfl,by decide +kernel,rfl,by decide +kernel,by decide +kernel⟩
theorem AM:bV ["n","lines","cells","line"] (ai (top 89)) lj (a_ (top 89))=true:=by decide +kernel
theorem AN:aR ["n","lines","above","right","below","left","line"] ["n","lines"] (ai (top 90)):=⟨rfl,rfl,rfl,by decide +kernel,rfl,by decide +kernel,by decide +kernel⟩
theorem AO:bV ["n","lines","above","right","below","left","line"] (ai (top 90)) ll (a_ (top 90))=true:=by decide +kernel
theorem AQ:aR ["n","signs","sign"] ["n","signs"] (ai (top 91)):=⟨rfl,rfl,rfl,by decide +kernel,rfl,by decide +kernel,by decide +kernel⟩
theorem AR:bV ["n","signs","sign"] (ai (top 91)) lg (a_ (top 91))=true:=by decide +kernel
theorem Dg:aR ["n","sign"] ["n","sign"] (ai (top 92)):=⟨rfl,rfl,rfl,by decide +kernel,rfl,by decide +kernel,by decide +kernel⟩
theorem Dh:bV ["n","sign"] (ai (top 92)) mO (a_ (top 92))=true:=by decide +kernel
theorem zr:aR ["town","side","towers","i"] ["town","side"] (ai (top 96)):=⟨rfl,rfl,rfl,by decide +kernel,rfl,by decide +kernel,by decide +kernel⟩
theorem zt:bV ["town","side","towers","i"] (ai (top 96)) ki (a_ (top 96))=true:=by decide +kernel
theorem AS:aR ["town","side"] ["town","side"] (ai (top 97)):=⟨rfl,rfl,rfl,by decide +kernel,rfl,by decide +kernel,by decide +kernel⟩
theorem AU:bV ["town","side"] (ai (top 97)) ly (a_ (top 97))=true:=by decide +kernel
theorem Di:aR ["town","side","clues","i"] ["town","side"] (ai (top 100)):=⟨rfl,rfl,rfl,by decide +kernel,rfl,by decide +kernel,by decide +kernel⟩
theorem Dj:bV ["town","side","clues","i"] (ai (top 100)) mR (a_ (top 100))=true:=by decide +kernel
theorem Ft:aR ["town","i","numbers"] ["town","i"] (ai (top 101)):=⟨rfl,rfl,rfl,by decide +kernel,rfl,by decide +kernel,by decide +kernel⟩
theorem Fu:bV ["town","i","numbers"] (ai (top 101)) oM (a_ (top 101))=true:=by decide +kernel
theorem Fv:aR ["numbers","number"] ["numbers"] (ai (top 102)):=⟨rfl,rfl,rfl,by decide +kernel,rfl,by decide +kernel,by decide +kernel⟩
theorem Fw:bV ["numbers","number"] (ai (top 102)) oK (a_ (top 102))=true:=by decide +kernel
theorem tU:aR ["town","call","given"] ["town","call","given"] (ai (top 137)):=⟨rfl,rfl,rfl,by decide +kernel,rfl,by decide +kernel,by decide +kernel⟩
theorem tV:bV ["town","call","given"] (ai (top 137)) jY (a_ (top 137))=true:=by decide +kernel
theorem zu:aR ["town","call","given"] ["town","call","given"] (ai (top 138)):=⟨rfl,rfl,rfl,by decide +kernel,rfl,by decide +kernel,by decide +kernel⟩
theorem zw:bV ["town","call","given"] (ai (top 138)) gM (a_ (top 138))=true:=by decide +kernel
structure Ds (K:aa) (mg:Str→Option Value):Prop where
 qS:Dd K mg "is_cell" 8 ["town","cell"]
 qT:Dd K mg "is_line" 9 ["town","side","i"]
 oT:Dd K mg "line_cells" 10 ["n","side","i"]
 h8:Dd K mg "line_towers" 11 ["town","side","i"]
 lX:Dd K mg "line_clue" 12 ["town","side","i"]
 gv:Dd K mg "count_towers" 13 ["town"]
 mU:Dd K mg "count_clues" 14 ["town"]
 j3:Dd K mg "count_seen" 15 ["towers"]
 xy:Dd K mg "as_bits" 16 ["heights"]
 qV:Dd K mg "line_ways" 26 ["town","side","i"]
 orders:Dd K mg "orders" 27 ["n"]
 holds:Dd K mg "holds" 28 ["heights","towers"]
 fits:Dd K mg "fits" 29 ["heights","near","far"]
 xA:Dd K mg "is_same" 30 ["found","place"]
 xB:Dd K mg "bits_at" 31 ["found","place"]
 mV:Dd K mg "answer_line" 32 ["town","side","i"]
 jb:Dd K mg "answer_hint" 33 ["town"]
 gT:Dd K mg "rows_then_columns" 34 ["n"]
 oU:Dd K mg "first_told" 35 ["town","cells","found"]
 lD:Dd K mg "answer_solve" 36 ["town"]
 lY:Dd K mg "town_ways" 38 ["town"]
 ir:Dd K mg "with_another_row" 39 ["begun","rows"]
 lE:Dd K mg "column_marks" 40 ["row"]
 mW:Dd K mg "columns_fit" 41 ["town","cells"]
 lF:Dd K mg "answer_count" 42 ["town"]
 oV:Dd K mg "answer_nth" 43 ["town","k"]
 mX:Dd K mg "answer_sure" 44 ["town","cell"]
 lG:Dd K mg "answer_could" 45 ["town","cell"]
 lH:Dd K mg "answer_known" 46 ["town"]
 lI:Dd K mg "answer_build" 48 ["town","cell","height"]
 mY:Dd K mg "answer_tear" 49 ["town","cell"]
 mZ:Dd K mg "answer_tell" 50 ["town","side","i","clue"]
 lJ:Dd K mg "answer_clear" 51 ["town"]
 m6:Dd K mg "answer_fill" 52 ["town","k"]
 lK:Dd K mg "answer_spare" 54 ["town"]
 kr:Dd K mg "needed_places" 55 ["town","told"]
 gw:Dd K mg "ways_without_clues" 56 ["town"]
 j8:Dd K mg "only_wrong" 57 ["full","told"]
 lL:Dd K mg "answer_views" 58 ["town"]
 oW:Dd K mg "answer_ask" 59 ["town"]
 mq:Dd K mg "town_views" 60 ["town"]
 qW:Dd K mg "moment_of" 63 ["town"]
 tW:Dd K mg "bring_to" 64 ["town","moment"]
 tX:Dd K mg "remember" 65 ["town","before"]
 m7:Dd K mg "answer_back" 66 ["town"]
 lM:Dd K mg "answer_again" 67 ["town"]
 qX:Dd K mg "answer_at" 69 ["town","cell"]
 lN:Dd K mg "free_heights" 70 ["town","cell"]
 m8:Dd K mg "answer_seen" 71 ["town","side","i"]
 m9:Dd K mg "answer_clue" 72 ["town","side","i"]
 lO:Dd K mg "answer_clash" 73 ["town"]
 oX:Dd K mg "like_pairs" 74 ["town"]
 iu:Dd K mg "like_pairs_along" 75 ["towers"]
 m_:Dd K mg "wrong_clues" 76 ["town"]
 tY:Dd K mg "is_wrong" 77 ["clue","towers"]
 ng:Dd K mg "answer_done" 78 ["town"]
 lP:Dd K mg "answer_state" 79 ["town"]
 lQ:Dd K mg "answer_start" 86 ["town","n","text"]
 j4:Dd K mg "text_lines" 87 ["text"]
 oe:Dd K mg "has_form" 88 ["n","lines"]
 j5:Dd K mg "read_cells" 89 ["n","lines"]
 j6:Dd K mg "read_clues" 90 ["n","lines"]
 oY:Dd K mg "read_signs" 91 ["n","signs"]
 qY:Dd K mg "read_sign" 92 ["n","sign"]
 nh:Dd K mg "answer_turn" 94 ["town"]
 ku:Dd K mg "answer_mirror" 95 ["town"]
 jc:Dd K mg "towers_from" 96 ["town","side"]
 j7:Dd K mg "side_clues" 97 ["town","side"]
 ni:Dd K mg "answer_text" 99 ["town"]
 j9:Dd K mg "edge_line" 100 ["town","side"]
 oh:Dd K mg "row_line" 101 ["town","i"]
 og:Dd K mg "signs_of" 102 ["numbers"]
 nj:Dd K mg "answer_call" 133 ["town","call","given"]
 kx:Dd K mg "answer_change" 134 ["town","call","given"]
 fZ:Dd K mg "answer_given_change" 135 ["town","call","given"]
 f6:Dd K mg "answer_whole_change" 136 ["town","call"]
 jE:Dd K mg "answer_of_ways" 137 ["town","call","given"]
 nq:Dd K mg "answer_look" 138 ["town","call","given"]
set_option maxHeartbeats 4000000 in
theorem G_ {f:Addr} {fd:FuncData} (F:pG K "answers" "answers" (top 132) f fd) (W:Wd K mg C) (d:Ds K mg) (N:Nw ⟨P,w,K,mg,base,1⟩ C):eI P w K mg base ia 100 f fd ["calls"] (IP K):=by
 have qZ:fH ⟨P,w,K,mg,base,1⟩ "is_cell" gJ:=jG d.qS W.bl G0 G1 (by simp only [qK,dj,ib,dI,cU,iH,iC,and_true,true_and,and_self]<;>(repeat' apply And.intro)<;>first|trivial) GD (cq fun _=>rfl)
 have q0:fH ⟨P,w,K,mg,base,1⟩ "is_line" ig:=jG d.qT W.bl G2 G3 (by simp only [qL,dj,ib,dI,cU,iH,iC,and_true,true_and,and_self]<;>(repeat' apply And.intro)<;>first|trivial|exact W.qp) GF (cq fun _=>rfl)
 have h9:fH ⟨P,w,K,mg,base,1⟩ "line_clue" cf:=jG d.lX W.bl C6 C7 (by simp only [mJ,dj,ib,dI,cU,iH,iC,and_true,true_and,and_self]<;>(repeat' apply And.intro)<;>first|trivial) Cm (cq fun _=>rfl)
 have lR:fH ⟨P,w,K,mg,base,1⟩ "line_cells" eW:=jG d.oT W.bl Au Av (by simp only [k8,dj,ib,dI,cU,iH,iC,and_true,true_and,and_self]<;>(repeat' apply And.intro)<;>first|trivial|exact W.oP|exact W.u7|exact W.u6) z5 (cq fun _=>rfl)
 have d7:fH ⟨P,w,K,mg,base,2⟩ "line_towers" cz:=jG d.h8 W.bl qv qw (by simp only [gH,dj,ib,dI,cU,iH,iC,and_true,true_and,and_self]<;>(repeat' apply And.intro)<;>first|trivial|exact lR.mono (by decide)) yh (cq fun _=>rfl)
 have dN:fH ⟨P,w,K,mg,base,2⟩ "line_towers" gb:=jG d.h8 W.bl qv qw (by simp only [gH,dj,ib,dI,cU,iH,iC,and_true,true_and,and_self]<;>(repeat' apply And.intro)<;>first|trivial|exact lR.mono (by decide)) wd (cq fun _=>rfl)
 have iw:fH ⟨P,w,K,mg,base,1⟩ "count_seen" di:=jG d.j3 W.bl Aw Ax (by simp only [kL,k9,dj,ib,dI,cU,iH,iC,and_true,true_and,and_self]<;>(repeat' apply And.intro)<;>first|trivial) z7 (cq fun _=>rfl)
 have qz:fH ⟨P,w,K,mg,base,1⟩ "count_towers" fj:=jG d.gv W.bl pj pq (by simp only [f_,dj,ib,dI,cU,iH,iC,and_true,true_and,and_self]<;>(repeat' apply And.intro)<;>first|trivial) vS (cq fun _=>rfl)
 have wK:fH ⟨P,w,K,mg,base,1⟩ "count_towers" iX:=jG d.gv W.bl pj pq (by simp only [f_,dj,ib,dI,cU,iH,iC,and_true,true_and,and_self]<;>(repeat' apply And.intro)<;>first|trivial) uW (cq fun _=>rfl)
 have zx:fH ⟨P,w,K,mg,base,1⟩ "column_marks" hC:=jG d.lE W.bl wj wk (by simp only [jr,js,dj,ib,dI,cU,iH,iC,and_true,true_and,and_self]<;>(repeat' apply And.intro)<;>first|trivial) vV (cq fun _=>rfl)
 have MG:fH ⟨P,w,K,mg,base,2⟩ "fits" uM:=jG d.fits W.bl OA OB (by simp only [Cn,dj,ib,dI,cU,iH,iC,and_true,true_and,and_self]<;>(repeat' apply And.intro)<;>first|trivial|exact iw.mono (by decide)) N7 (cq fun _=>rfl)
 have AV:fH ⟨P,w,K,mg,base,3⟩ "columns_fit" iO:=jG d.mW W.bl ze zf (by simp only [jU,kf,dj,ib,dI,cU,iH,iC,and_true,true_and,and_self]<;>(repeat' apply And.intro)<;>first|trivial|exact MG.mono (by decide)|exact h9.mono (by decide)|exact W.oP|exact W.u7) yl (cq fun _=>rfl)
 have OC:fH ⟨P,w,K,mg,base,1⟩ "holds" xg:=jG d.holds W.bl ME MF (by simp only [r8,xf,dj,ib,dI,cU,iH,iC,and_true,true_and,and_self]<;>(repeat' apply And.intro)<;>first|trivial) LG (cq fun _=>rfl)
 have MH:fH ⟨P,w,K,mg,base,1⟩ "orders" tw:=jG d.orders W.bl JV JW (by simp only [vC,vD,kD,dj,ib,dI,cU,iH,iC,and_true,true_and,and_self]<;>(repeat' apply And.intro)<;>first|trivial) JG (cq fun _=>rfl)
 have qA:fH ⟨P,w,K,mg,base,3⟩ "line_ways" g_:=jG d.qV W.bl C8 C9 (by simp only [mK,dj,ib,dI,cU,iH,iC,and_true,true_and,and_self]<;>(repeat' apply And.intro)<;>first|trivial|exact MG.mono (by decide)|exact OC.mono (by decide)|exact h9.mono (by decide)|exact d7.mono (by decide)|exact dN.mono (by decide)|exact MH.mono (by decide)|exact W.qp) Co (cq fun _=>rfl)
 have sq:fH ⟨P,w,K,mg,base,1⟩ "with_another_row" fm:=jG d.ir W.bl rp rq (by simp only [fo,gQ,gr,dj,ib,dI,cU,iH,iC,and_true,true_and,and_self]<;>(repeat' apply And.intro)<;>first|trivial) rk (cq fun _=>rfl)
 have h_:fH ⟨P,w,K,mg,base,4⟩ "town_ways" dE:=jG d.lY W.bl C_ Dc (by simp only [l8,mL,dj,ib,dI,cU,iH,iC,and_true,true_and,and_self]<;>(repeat' apply And.intro)<;>first|trivial|exact zx.mono (by decide)|exact AV.mono (by decide)|exact qA.mono (by decide)|exact sq.mono (by decide)|exact W.tQ) Cq (cq fun _=>rfl)
 have vd:fH ⟨P,w,K,mg,base,1⟩ "is_same" il:=jG d.xA W.bl G6 G7 (by simp only [qN,dj,ib,dI,cU,iH,iC,and_true,true_and,and_self]<;>(repeat' apply And.intro)<;>first|trivial) GI (cq fun _=>rfl)
 have Dk:fH ⟨P,w,K,mg,base,2⟩ "first_told" lr:=jG d.oU W.bl Ay Az (by simp only [kQ,lq,dj,ib,dI,cU,iH,iC,and_true,true_and,and_self]<;>(repeat' apply And.intro)<;>first|trivial|exact vd.mono (by decide)) Ak (cq fun _=>rfl)
 have rB:fH ⟨P,w,K,mg,base,1⟩ "rows_then_columns" eQ:=jG d.gT W.bl qx qy (by simp only [fY,dj,ib,dI,cU,iH,iC,and_true,true_and,and_self]<;>(repeat' apply And.intro)<;>first|trivial|exact W.oP|exact W.tQ) qi (cq fun _=>rfl)
 have rM:fH ⟨P,w,K,mg,base,4⟩ "answer_hint" (zP .hint):=jG d.jb W.bl zc zd (by simp only [e7,nG,dj,ib,dI,cU,iH,iC,and_true,true_and,and_self]<;>(repeat' apply And.intro)<;>first|trivial|exact Dk.mono (by decide)|exact lR.mono (by decide)|exact qA.mono (by decide)|exact rB.mono (by decide)|exact W.lA|exact W.qR) (Rj fun g ok=>wa ok) (cq fun _=>rfl)
 have Dl:fH ⟨P,w,K,mg,base,1⟩ "text_lines" jv:=jG d.j4 W.bl AJ AK (by simp only [kO,lh,dj,ib,dI,cU,iH,iC,and_true,true_and,and_self]<;>(repeat' apply And.intro)<;>first|trivial|exact W.j0) Ae (cq fun _=>rfl)
 have Ha:fH ⟨P,w,K,mg,base,1⟩ "has_form" mf:=jG d.oe W.bl Fq Fs (by simp only [oH,dj,ib,dI,cU,iH,iC,and_true,true_and,and_self]<;>(repeat' apply And.intro)<;>first|trivial|exact W.u9) EO (cq fun _=>rfl)
 have Fy:fH ⟨P,w,K,mg,base,1⟩ "read_sign" mP:=jG d.qY W.bl Dg Dh (by simp only [mO,dj,ib,dI,cU,iH,iC,and_true,true_and,and_self]<;>(repeat' apply And.intro)<;>first|trivial|exact W.ja|exact W.JS|exact W.qr) Cy (cq fun _=>rfl)
 have tZ:fH ⟨P,w,K,mg,base,2⟩ "read_signs" ip:=jG d.oY W.bl AQ AR (by simp only [lg,dj,ib,dI,cU,iH,iC,and_true,true_and,and_self]<;>(repeat' apply And.intro)<;>first|trivial|exact Fy.mono (by decide)) Ac (cq fun _=>rfl)
 have Dm:fH ⟨P,w,K,mg,base,3⟩ "read_cells" jx:=jG d.j5 W.bl AL AM (by simp only [kP,lj,dj,ib,dI,cU,iH,iC,and_true,true_and,and_self]<;>(repeat' apply And.intro)<;>first|trivial|exact tZ.mono (by decide)) Ag (cq fun _=>rfl)
 have Dn:fH ⟨P,w,K,mg,base,3⟩ "read_clues" jy:=jG d.j6 W.bl AN AO (by simp only [ll,dj,ib,dI,cU,iH,iC,and_true,true_and,and_self]<;>(repeat' apply And.intro)<;>first|trivial|exact tZ.mono (by decide)) Ai (cq fun _=>rfl)
 have AW:fH ⟨P,w,K,mg,base,3⟩ "towers_from" gL:=jG d.jc W.bl zr zt (by simp only [jW,ki,dj,ib,dI,cU,iH,iC,and_true,true_and,and_self]<;>(repeat' apply And.intro)<;>first|trivial|exact d7.mono (by decide)|exact dN.mono (by decide)) yL (cq fun _=>rfl)
 have Dq:fH ⟨P,w,K,mg,base,1⟩ "side_clues" jB:=jG d.j7 W.bl AS AU (by simp only [ly,dj,ib,dI,cU,iH,iC,and_true,true_and,and_self]<;>(repeat' apply And.intro)<;>first|trivial) An (cq fun _=>rfl)
 have Dr:fH ⟨P,w,K,mg,base,3⟩ "only_wrong" jC:=jG d.j8 W.bl AD AE (by simp only [cI,lz,dj,ib,dI,cU,iH,iC,and_true,true_and,and_self]<;>(repeat' apply And.intro)<;>first|trivial|exact iw.mono (by decide)|exact d7.mono (by decide)|exact dN.mono (by decide)) Ar (cq fun _=>rfl)
 have sr:fH ⟨P,w,K,mg,base,1⟩ "signs_of" hZ:=jG d.og W.bl Fv Fw (by simp only [oK,dj,ib,dI,cU,iH,iC,and_true,true_and,and_self]<;>(repeat' apply And.intro)<;>first|trivial|exact W.ja|exact W.JS) EY (cq fun _=>rfl)
 have Hb:fH ⟨P,w,K,mg,base,3⟩ "row_line" mi:=jG d.oh W.bl Ft Fu (by simp only [oM,dj,ib,dI,cU,iH,iC,and_true,true_and,and_self]<;>(repeat' apply And.intro)<;>first|trivial|exact h9.mono (by decide)|exact d7.mono (by decide)|exact dN.mono (by decide)|exact sr.mono (by decide)|exact W.tQ|exact W.j0|exact W.u6) E2 (cq fun _=>rfl)
 have FA:fH ⟨P,w,K,mg,base,2⟩ "edge_line" i_:=jG d.j9 W.bl Di Dj (by simp only [mR,dj,ib,dI,cU,iH,iC,and_true,true_and,and_self]<;>(repeat' apply And.intro)<;>first|trivial|exact h9.mono (by decide)|exact sr.mono (by decide)|exact W.u9|exact W.j0) CL (cq fun _=>rfl)
 have pk:∀k,19≤k→Ps ⟨P,w,K,mg,base,k⟩:=fun k hk=>⟨qZ.mono (aO (by decide) hk),q0.mono (aO (by decide) hk),h9.mono (aO (by decide) hk),d7.mono (aO (by decide) hk),dN.mono (aO (by decide) hk),iw.mono (aO (by decide) hk),qz.mono (aO (by decide) hk),h_.mono (aO (by decide) hk),rM.mono (aO (by decide) hk),Dl.mono (aO (by decide) hk),Ha.mono (aO (by decide) hk),Dm.mono (aO (by decide) hk),Dn.mono (aO (by decide) hk),AW.mono (aO (by decide) hk),Dq.mono (aO (by decide) hk),Dr.mono (aO (by decide) hk),sr.mono (aO (by decide) hk),Hb.mono (aO (by decide) hk),FA.mono (aO (by decide) hk)⟩
 have U0:=pk 19 (by decide)
 have IQ:=pk 20 (by decide)
 have AX:fH ⟨P,w,K,mg,base,1⟩ "count_clues" kh:=jG d.mU W.bl y9 y_ (by simp only [nI,dj,ib,dI,cU,iH,iC,and_true,true_and,and_self]<;>(repeat' apply And.intro)<;>first|trivial) yJ (cq fun _=>rfl)
 have BO:fH ⟨P,w,K,mg,base,1⟩ "as_bits" n0:=jG d.xy W.bl G4 G5 (by simp only [oC,qM,dj,ib,dI,cU,iH,iC,and_true,true_and,and_self]<;>(repeat' apply And.intro)<;>first|trivial) Gz (cq fun _=>rfl)
 have BP:fH ⟨P,w,K,mg,base,2⟩ "bits_at" n9:=jG d.xB W.bl G8 G9 (by simp only [qO,dj,ib,dI,cU,iH,iC,and_true,true_and,and_self]<;>(repeat' apply And.intro)<;>first|trivial|exact BO.mono (by decide)) GJ (cq fun _=>rfl)
 have AY:fH ⟨P,w,K,mg,base,4⟩ "answer_line" (Pl .line):=jG d.mV W.bl za zb (by simp only [nE,dj,ib,dI,cU,iH,iC,and_true,true_and,and_self]<;>(repeat' apply And.intro)<;>first|trivial|exact BP.mono (by decide)|exact q0.mono (by decide)|exact qA.mono (by decide)|exact W.iS|exact W.lA) (XD fun g k i ok=>v_ ok) (cq fun _=>rfl)
 have zy:fH ⟨P,w,K,mg,base,5⟩ "answer_count" (zP .count):=jG d.lF W.bl wm wo (by simp only [ma,dj,ib,dI,cU,iH,iC,and_true,true_and,and_self]<;>(repeat' apply And.intro)<;>first|trivial|exact h_.mono (by decide)) (Rj fun g ok=>uR ok) (cq fun _=>rfl)
 have Dt:fH ⟨P,w,K,mg,base,5⟩ "answer_nth" (M1 .nth):=jG d.oV W.bl AA AB (by simp only [oG,dj,ib,dI,cU,iH,iC,and_true,true_and,and_self]<;>(repeat' apply And.intro)<;>first|trivial|exact h_.mono (by decide)|exact W.kE) (Vw fun g i ok=>yw ok) (cq fun _=>rfl)
 have AZ:fH ⟨P,w,K,mg,base,5⟩ "answer_sure" (M1 .sure):=jG d.mX W.bl zg zh (by simp only [nB,dj,ib,dI,cU,iH,iC,and_true,true_and,and_self]<;>(repeat' apply And.intro)<;>first|trivial|exact qZ.mono (by decide)|exact vd.mono (by decide)|exact h_.mono (by decide)|exact W.iS|exact W.lA|exact W.qR) (Vw fun g i ok=>v9 ok) (cq fun _=>rfl)
 have zz:fH ⟨P,w,K,mg,base,5⟩ "answer_could" (M1 .could):=jG d.lG W.bl wq wt (by simp only [md,dj,ib,dI,cU,iH,iC,and_true,true_and,and_self]<;>(repeat' apply And.intro)<;>first|trivial|exact BP.mono (by decide)|exact qZ.mono (by decide)|exact h_.mono (by decide)|exact W.iS) (Vw fun g i ok=>uS ok) (cq fun _=>rfl)
 have zA:fH ⟨P,w,K,mg,base,5⟩ "answer_known" (zP .known):=jG d.lH W.bl wu wx (by simp only [me,dj,ib,dI,cU,iH,iC,and_true,true_and,and_self]<;>(repeat' apply And.intro)<;>first|trivial|exact vd.mono (by decide)|exact h_.mono (by decide)|exact W.lA) (Rj fun g ok=>uT ok) (cq fun _=>rfl)
 have Du:fH ⟨P,w,K,mg,base,3⟩ "town_views" lx:=jG d.mq W.bl AF AG (by simp only [gB,lu,dj,ib,dI,cU,iH,iC,and_true,true_and,and_self]<;>(repeat' apply And.intro)<;>first|trivial|exact iw.mono (by decide)|exact d7.mono (by decide)|exact dN.mono (by decide)|exact W.qp) Am (cq fun _=>rfl)
 have zB:fH ⟨P,w,K,mg,base,4⟩ "answer_views" (zP .views):=jG d.lL W.bl wB wC (by simp only [mh,dj,ib,dI,cU,iH,iC,and_true,true_and,and_self]<;>(repeat' apply And.intro)<;>first|trivial|exact Du.mono (by decide)|exact W.oa) (Rj fun g ok=>uY ok) (cq fun _=>rfl)
 have zC:fH ⟨P,w,K,mg,base,2⟩ "free_heights" ju:=jG d.lN W.bl wD wF (by simp only [jt,dj,ib,dI,cU,iH,iC,and_true,true_and,and_self]<;>(repeat' apply And.intro)<;>first|trivial|exact lR.mono (by decide)|exact W.oP|exact W.tQ) vX (cq fun _=>rfl)
 have FC:fH ⟨P,w,K,mg,base,3⟩ "answer_at" (M1 .at_):=jG d.qX W.bl De Df (by simp only [qb,dj,ib,dI,cU,iH,iC,and_true,true_and,and_self]<;>(repeat' apply And.intro)<;>first|trivial|exact BO.mono (by decide)|exact zC.mono (by decide)|exact qZ.mono (by decide)|exact W.iS) (Vw fun g i ok=>z_ ok) (cq fun _=>rfl)
 have A1:fH ⟨P,w,K,mg,base,3⟩ "answer_seen" (Pl .seen):=jG d.m8 W.bl zi zj (by simp only [nu,dj,ib,dI,cU,iH,iC,and_true,true_and,and_self]<;>(repeat' apply And.intro)<;>first|trivial|exact iw.mono (by decide)|exact q0.mono (by decide)|exact d7.mono (by decide)|exact dN.mono (by decide)|exact W.iS) (XD fun g k i ok=>vY ok) (cq fun _=>rfl)
 have A2:fH ⟨P,w,K,mg,base,2⟩ "answer_clue" (Pl .clue):=jG d.m9 W.bl zk zl (by simp only [nv,dj,ib,dI,cU,iH,iC,and_true,true_and,and_self]<;>(repeat' apply And.intro)<;>first|trivial|exact q0.mono (by decide)|exact h9.mono (by decide)|exact W.iS) (XD fun g k i ok=>vZ ok) (cq fun _=>rfl)
 have su:fH ⟨P,w,K,mg,base,1⟩ "like_pairs_along" dz:=jG d.iu W.bl rz rA (by simp only [gR,gu,dj,ib,dI,cU,iH,iC,and_true,true_and,and_self]<;>(repeat' apply And.intro)<;>first|trivial) rm (cq fun _=>rfl)
 have t_:fH ⟨P,w,K,mg,base,3⟩ "like_pairs" ij:=jG d.oX W.bl AH AI (by simp only [kM,k_,dj,ib,dI,cU,iH,iC,and_true,true_and,and_self]<;>(repeat' apply And.intro)<;>first|trivial|exact su.mono (by decide)|exact d7.mono (by decide)|exact dN.mono (by decide)|exact W.oP|exact W.tQ) Aa (cq fun _=>rfl)
 have Hc:fH ⟨P,w,K,mg,base,2⟩ "is_wrong" l9:=jG d.tY W.bl Fo Fp (by simp only [oF,dj,ib,dI,cU,iH,iC,and_true,true_and,and_self]<;>(repeat' apply And.intro)<;>first|trivial|exact iw.mono (by decide)) EH (cq fun _=>rfl)
 have rN:fH ⟨P,w,K,mg,base,3⟩ "wrong_clues" gK:=jG d.m_ W.bl zm zo (by simp only [ik,jV,kg,dj,ib,dI,cU,iH,iC,and_true,true_and,and_self]<;>(repeat' apply And.intro)<;>first|trivial|exact Hc.mono (by decide)|exact h9.mono (by decide)|exact d7.mono (by decide)|exact dN.mono (by decide)|exact W.qp) yu (cq fun _=>rfl)
 have zD:fH ⟨P,w,K,mg,base,4⟩ "answer_clash" (zP .clash):=jG d.lO W.bl wG wH (by simp only [l_,dj,ib,dI,cU,iH,iC,and_true,true_and,and_self]<;>(repeat' apply And.intro)<;>first|trivial|exact t_.mono (by decide)|exact rN.mono (by decide)) (Rj fun g ok=>uQ ok) (cq fun _=>rfl)
 have A3:fH ⟨P,w,K,mg,base,4⟩ "answer_done" (zP .done):=jG d.ng W.bl zp zq (by simp only [ny,dj,ib,dI,cU,iH,iC,and_true,true_and,and_self]<;>(repeat' apply And.intro)<;>first|trivial|exact t_.mono (by decide)|exact rN.mono (by decide)) (Rj fun g ok=>v8 ok) (cq fun _=>rfl)
 have zE:fH ⟨P,w,K,mg,base,2⟩ "answer_state" (Vx):=jG d.lP W.bl wI wJ (by simp only [jz,dj,ib,dI,cU,iH,iC,and_true,true_and,and_self]<;>(repeat' apply And.intro)<;>first|trivial|exact AX.mono (by decide)|exact qz.mono (by decide)|exact wK.mono (by decide)) (Uw) (cq fun _=>rfl)
 have U1:fH ⟨P,w,K,mg,base,20⟩ "ways_without_clues" Fm:=X_ d.gw (fun f fd F=>Dwwc.ok (k:=18) F W U0 (N.mono (by decide))) rfl (cq fun _=>rfl)
 have wL:fH ⟨P,w,K,mg,base,21⟩ "needed_places" gC:=X_ d.kr (fun f fd F=>Dneed.ok (k:=19) F W IQ (N.mono (by decide)) U1) rfl (cq fun _=>rfl)
 have RL:qQ ⟨P,w,K,mg,base,20⟩ "edge_line" ["town","side"] (GY K):=As d.j9 fun f fd F=>Dedge.ok F W U0
 have A4:fH ⟨P,w,K,mg,base,21⟩ "answer_text" (zP .text):=X_ d.ni (fun f fd F=>Dtext.ok F W IQ RL) rfl (cq fun _=>rfl)
 have zF:fH ⟨P,w,K,mg,base,22⟩ "answer_spare" (zP .spare):=jG d.lK W.bl wz wA (by simp only [mm,dj,ib,dI,cU,iH,iC,and_true,true_and,and_self]<;>(repeat' apply And.intro)<;>first|trivial|exact wL.mono (by decide)|exact h_.mono (by decide)|exact W.lA) (Rj fun g ok=>u1 ok) (cq fun _=>rfl)
 have ve:fH ⟨P,w,K,mg,base,23⟩ "answer_of_ways" (M4 tT):=jG d.jE W.bl tU tV (by simp only [jY,dj,ib,dI,cU,iH,iC,and_true,true_and,and_self]<;>(repeat' apply And.intro)<;>first|trivial|exact zz.mono (by decide)|exact zy.mono (by decide)|exact zA.mono (by decide)|exact Dt.mono (by decide)|exact zF.mono (by decide)|exact AZ.mono (by decide)|exact W.yU|exact W.yT|exact W.yV|exact W.Mq|exact W.E_) (Me fun g ok=>E5 ok) (cq fun _=>rfl)
 have A5:fH ⟨P,w,K,mg,base,23⟩ "answer_look" (Mz):=jG d.nq W.bl zu zw (by simp only [gM,dj,ib,dI,cU,iH,iC,and_true,true_and,and_self]<;>(repeat' apply And.intro)<;>first|trivial|exact FC.mono (by decide)|exact zD.mono (by decide)|exact A2.mono (by decide)|exact A3.mono (by decide)|exact rM.mono (by decide)|exact AY.mono (by decide)|exact A1.mono (by decide)|exact zE.mono (by decide)|exact A4.mono (by decide)|exact zB.mono (by decide)|exact W.UD|exact W.yS|exact W.E8|exact W.E9|exact W.Fc|exact W.Fb|exact W.E7|exact W.Fd|exact W.yW) (UT) UZ
 have OD:qQ ⟨P,w,K,mg,base,20⟩ "town_views" ["town"] (XJ K C):=As d.mq fun f fd F=>Dviews.ok F W U0
 have zG:qQ ⟨P,w,K,mg,base,20⟩ "moment_of" ["town"] (Fg K C):=As d.qW fun f fd F=>Dmoment.ok F W
 have IS:qQ ⟨P,w,K,mg,base,20⟩ "bring_to" ["town","moment"] (Ou K C):=As d.tW fun f fd F=>Dbring.ok F W U0
 have U2:qQ ⟨P,w,K,mg,base,20⟩ "remember" ["town","before"] (II K C):=As d.tX fun f fd F=>Drem.ok F W U0
 have cs:Cs ⟨P,w,K,mg,base,21⟩ C:=⟨As d.lI fun f fd F=>Dbuild.ok F W IQ,As d.mY fun f fd F=>Dtear.ok F W IQ,As d.mZ fun f fd F=>Dtell.ok F W IQ,As d.m6 fun f fd F=>Dfill.ok F W IQ,As d.lD fun f fd F=>Dsolve.ok F W IQ,As d.lJ fun f fd F=>Dclear.ok F W IQ,As d.oW fun f fd F=>Dask.ok F W IQ OD,As d.nh fun f fd F=>Dturn.ok F W IQ,As d.ku fun f fd F=>Dmirror.ok F W IQ⟩
 have OE:=As (P:=P) (w:=w) (base:=base) d.fZ fun f fd F=>Dgiven.ok F W (pk 21 (by decide)) cs
 have OF:=As (P:=P) (w:=w) (base:=base) d.f6 fun f fd F=>Dwhole.ok F W (pk 21 (by decide)) cs
 have MI:=As (P:=P) (w:=w) (base:=base) d.kx fun f fd F=>Dchange.ok F W (pk 22 (by decide)) (zG.mono (by decide)) (U2.mono (by decide)) OE OF
 have RM:=As (P:=P) (w:=w) (base:=base) d.m7 fun f fd F=>Dback.ok F W IQ zG IS
 have OG:=As (P:=P) (w:=w) (base:=base) d.lM fun f fd F=>Dagain.ok F W IQ zG IS
 have RN:=As (P:=P) (w:=w) (base:=base) d.nj fun f fd F=>Dcall.ok (k:=23) F W (pk 23 (by decide)) (RM.mono (by decide)) (OG.mono (by decide)) MI ve A5
 have OH:=As (P:=P) (w:=w) (base:=base) d.lQ fun f fd F=>Dstart.ok F W IQ
 exact (Dans.ok (k:=23) F W (pk 24 (by decide)) (N.mono (by decide)) (OH.mono (by decide)) RN).mono (by decide)
end
end Tn
namespace Tn
open PySem PySem.Spec PyProof.Rows L2 Mi
structure FT (K:aa) (x:Str) (i:Nat):Prop where
 ex:∃f oc od zO kV doc pm an eU ct,cW K mainGlobals x=some (some (.ref f))∧K.lookup f=some ⟨oc,od,.func (e8 x x (k7 (top i)) (a_ (top i)) (ai (top i)) .none kV doc pm an eU ct),zO⟩∧iy K eU x=true∧dt K (.ref f)=true
theorem FT.mk' {K:aa} {x:Str} {i:Nat} {f:Addr} {oc:Value} {od an:Option Addr} {zO:Array (Option Value)} {kV doc pm eU ct:Value} (a:cW K mainGlobals x=some (some (.ref f))) (l:K.lookup f=some ⟨oc,od,.func (e8 x x (k7 (top i)) (a_ (top i)) (ai (top i)) .none kV doc pm an eU ct),zO⟩) (c:iy K eU x=true) (k:dt K (.ref f)=true):FT K x i:=⟨⟨f,oc,od,zO,kV,doc,pm,an,eU,ct,a,l,c,k⟩⟩
structure CT (K:aa) (x:Str) (z:Int):Prop where
 ex:∃t,cW K mainGlobals x=some (some (.int z t))
theorem CT.mk' {K:aa} {x:Str} {z:Int} {t:Tok} (a:cW K mainGlobals x=some (some (.int z t))):CT K x z:=⟨t,a⟩
abbrev zH:Stmt:=inClass (top 7) 0
structure KT (K:aa) (C:Addr):Prop where
 aC:cW K mainGlobals "Town" = some (some (.ref C))
 ini:∃f oc od zO kV doc pm an eU ct,cK K (.ref C) "__init__" = some (some (.ref f))∧FD K (.ref f)=true∧K.lookup f=some ⟨oc,od,.func (e8 "__init__" "Town.__init__" (k7 zH) (a_ zH) (ai zH) .none kV doc pm an eU ct),zO⟩∧iy K eU "Town.__init__" = true∧dt K (.ref f)=true
 T:oN K C
 mks:pH K C=true
 kc:dt K (.ref C)=true
theorem KT.mk' {K:aa} {C f:Addr} {oc:Value} {od an:Option Addr} {zO:Array (Option Value)} {kV doc pm eU ct:Value} (aC:cW K mainGlobals "Town" = some (some (.ref C))) (a1:cK K (.ref C) "__init__" = some (some (.ref f))) (i1:FD K (.ref f)=true) (l1:K.lookup f=some ⟨oc,od,.func (e8 "__init__" "Town.__init__" (k7 zH) (a_ zH) (ai zH) .none kV doc pm an eU ct),zO⟩) (c1:iy K eU "Town.__init__" = true) (k1:dt K (.ref f)=true)
  (pg:oZ K C Str.empty=true) (hd:nP K C=true) (po:vg K C=true) (sa:cK K (.ref C) "__setattr__" = some (some (.builtin "object.__setattr__"))) (mk:pH K C=true) (kc:dt K (.ref C)=true)
  (n1:cK K (.ref C) "n" = some none) (n2:cK K (.ref C) "cells" = some none) (n3:cK K (.ref C) "clues" = some none) (n4:cK K (.ref C) "earlier" = some none) (n5:cK K (.ref C) "later" = some none):∃C,KT K C :=
 ⟨C,aC,⟨f,oc,od,zO,kV,doc,pm,an,eU,ct,a1,i1,l1,c1,k1⟩,⟨⟨pg,hd,po,sa⟩,n1,n2,n3,n4,n5⟩,mk,kc⟩
structure NB (K:aa):Prop where
 ex:∃a,cW K mainGlobals "NUMBERS_BEHIND" = some (some (.ref a))∧∀F,xG K F a (vL arity)
theorem NB.mk' {K:aa} {a:Addr} {od:Option Addr} {zO:Array (Option Value)} {bR:Array Value} {n:Nat} (e:cW K mainGlobals "NUMBERS_BEHIND" = some (some (.ref a))) (l:K.lookup a=some ⟨.type "tuple",od,.seq bR n,zO⟩) (v:Vals (vL arity) bR.toList) (z:bR.size≤sizeLine):NB K:=⟨a,e,fun _=>.inr ⟨_,bR,n,l,rfl,rfl,z,v⟩⟩
structure BT (K:aa):Prop where
 len:cW K mainGlobals "len" = some none
 range:cW K mainGlobals "range" = some none
 list:cW K mainGlobals "list" = some none
 reversed:cW K mainGlobals "reversed" = some none
 enumerate:cW K mainGlobals "enumerate" = some none
 zip:cW K mainGlobals "zip" = some none
 all:cW K mainGlobals "all" = some none
 any:cW K mainGlobals "any" = some none
 sum:cW K mainGlobals "sum" = some none
structure Tx (K:aa):Prop where
 qS:FT K "is_cell" 8
 qT:FT K "is_line" 9
 oT:FT K "line_cells" 10
 h8:FT K "line_towers" 11
 lX:FT K "line_clue" 12
 gv:FT K "count_towers" 13
 mU:FT K "count_clues" 14
 j3:FT K "count_seen" 15
 xy:FT K "as_bits" 16
 qV:FT K "line_ways" 26
 orders:FT K "orders" 27
 holds:FT K "holds" 28
 fits:FT K "fits" 29
 xA:FT K "is_same" 30
 xB:FT K "bits_at" 31
 mV:FT K "answer_line" 32
 jb:FT K "answer_hint" 33
 gT:FT K "rows_then_columns" 34
 oU:FT K "first_told" 35
 lD:FT K "answer_solve" 36
 lY:FT K "town_ways" 38
 ir:FT K "with_another_row" 39
 lE:FT K "column_marks" 40
 mW:FT K "columns_fit" 41
 lF:FT K "answer_count" 42
 oV:FT K "answer_nth" 43
 mX:FT K "answer_sure" 44
 lG:FT K "answer_could" 45
 lH:FT K "answer_known" 46
 lI:FT K "answer_build" 48
 mY:FT K "answer_tear" 49
 mZ:FT K "answer_tell" 50
 lJ:FT K "answer_clear" 51
 m6:FT K "answer_fill" 52
 lK:FT K "answer_spare" 54
 kr:FT K "needed_places" 55
 gw:FT K "ways_without_clues" 56
 j8:FT K "only_wrong" 57
 lL:FT K "answer_views" 58
 oW:FT K "answer_ask" 59
 mq:FT K "town_views" 60
 qW:FT K "moment_of" 63
 tW:FT K "bring_to" 64
 tX:FT K "remember" 65
 m7:FT K "answer_back" 66
 lM:FT K "answer_again" 67
 qX:FT K "answer_at" 69
 lN:FT K "free_heights" 70
 m8:FT K "answer_seen" 71
 m9:FT K "answer_clue" 72
 lO:FT K "answer_clash" 73
 oX:FT K "like_pairs" 74
 iu:FT K "like_pairs_along" 75
 m_:FT K "wrong_clues" 76
 tY:FT K "is_wrong" 77
 ng:FT K "answer_done" 78
 lP:FT K "answer_state" 79
 lQ:FT K "answer_start" 86
 j4:FT K "text_lines" 87
 oe:FT K "has_form" 88
 j5:FT K "read_cells" 89
 j6:FT K "read_clues" 90
 oY:FT K "read_signs" 91
 qY:FT K "read_sign" 92
 nh:FT K "answer_turn" 94
 ku:FT K "answer_mirror" 95
 jc:FT K "towers_from" 96
 j7:FT K "side_clues" 97
 ni:FT K "answer_text" 99
 j9:FT K "edge_line" 100
 oh:FT K "row_line" 101
 og:FT K "signs_of" 102
 answers:FT K "answers" 132
 nj:FT K "answer_call" 133
 kx:FT K "answer_change" 134
 fZ:FT K "answer_given_change" 135
 f6:FT K "answer_whole_change" 136
 jE:FT K "answer_of_ways" 137
 nq:FT K "answer_look" 138
 iS:CT K "NO_SUCH" (-22)
 kE:CT K "NONE_THERE" (-2)
 kn:CT K "TOWER_STANDS" (-17)
 oa:CT K "NO_TOWER" (-12)
 oO:CT K "NOT_BEGUN" (-61)
 tP:CT K "NO_TOWN" (-71)
 lA:CT K "NO_WAY" (-33)
 qR:CT K "UNSURE" (-6)
 ko:CT K "HIGHEST_SIZE" (4)
 oP:CT K "ABOVE" (0)
 u6:CT K "RIGHT" (1)
 u7:CT K "BELOW" (2)
 tQ:CT K "LEFT" (3)
 qp:CT K "SIDES" (4)
 kq:CT K "MOST_CHANGES" (20)
 j0:CT K "LINE_END" (10)
 u9:CT K "BLANK" (32)
 JS:CT K "DOT" (46)
 ja:CT K "DIGIT_ZERO" (48)
 qr:CT K "NO_SIGN" (-1)
 CU:CT K "START" (0)
 CV:CT K "BUILD" (1)
 IA:CT K "TEAR" (2)
 IB:CT K "TELL" (3)
 UD:CT K "AT" (4)
 E7:CT K "SEEN" (5)
 E8:CT K "CLUE" (6)
 yS:CT K "CLASH" (7)
 E9:CT K "DONE" (8)
 yT:CT K "COUNT" (9)
 Mq:CT K "NTH" (10)
 E_:CT K "SURE" (11)
 yU:CT K "COULD" (12)
 yV:CT K "KNOWN" (13)
 Fb:CT K "LINE" (14)
 Fc:CT K "HINT" (15)
 CW:CT K "SOLVE" (16)
 IC:CT K "FILL" (17)
 CY:CT K "SPARE" (18)
 yW:CT K "VIEWS" (19)
 CZ:CT K "CLEAR" (20)
 Oo:CT K "ASK" (21)
 ID:CT K "TURN" (22)
 xr:CT K "MIRROR" (23)
 Fd:CT K "TEXT" (24)
 IE:CT K "BACK" (25)
 C0:CT K "AGAIN" (26)
 nb:NB K
 bt:BT K
 kt:∃C,KT K C
section
variable {P:Program} {w:World} {K:aa} {h:Heap} {mg:Str→Option Value}
theorem bH {x:Str} {i:Nat} {ps:List Str} (X:K.In h) (G:h.Ns mainGlobals mg) (F:FT K x i) (hb:∀(kV doc pm:Value) (an:Option Addr) (eU ct:Value) (us:List Value),us.length=ps.length→bindArgs (e8 x x (k7 (top i)) (a_ (top i)) (ai (top i)) .none kV doc pm an eU ct) ⟨us,[]⟩=pure (ps.zip us)):Dd K mg x i ps:=by
 obtain ⟨f,oc,od,zO,kV,doc,pm,an,eU,ct,a,l,c,k⟩:=F.ex
 exact ⟨f,_,B_ l c k,oi X G a,(B_ (st:=top i) l c k).binds hb⟩
theorem mr {x:Str} {z:Int} (X:K.In h) (G:h.Ns mainGlobals mg) (F:CT K x z):kJ K mg x (.int z):=by
 obtain ⟨t,e⟩:=F.ex
 exact ⟨_,.int z,oi X G e,⟨t,rfl⟩,fun F=>bO z⟩
macro "b1" : term=>`(fun _ _ _ _ _ _ us hl=>match us,hl with|[_],_=>rfl)
macro "b2" : term=>`(fun _ _ _ _ _ _ us hl=>match us,hl with|[_,_],_=>rfl)
macro "b3" : term=>`(fun _ _ _ _ _ _ us hl=>match us,hl with|[_,_,_],_=>rfl)
macro "b4" : term=>`(fun _ _ _ _ _ _ us hl=>match us,hl with|[_,_,_,_],_=>rfl)
theorem U3 (X:K.In h) (G:h.Ns mainGlobals mg) (t:Tx K):Ds K mg where
 qS:=bH X G t.qS b2
 qT:=bH X G t.qT b3
 oT:=bH X G t.oT b3
 h8:=bH X G t.h8 b3
 lX:=bH X G t.lX b3
 gv:=bH X G t.gv b1
 mU:=bH X G t.mU b1
 j3:=bH X G t.j3 b1
 xy:=bH X G t.xy b1
 qV:=bH X G t.qV b3
 orders:=bH X G t.orders b1
 holds:=bH X G t.holds b2
 fits:=bH X G t.fits b3
 xA:=bH X G t.xA b2
 xB:=bH X G t.xB b2
 mV:=bH X G t.mV b3
 jb:=bH X G t.jb b1
 gT:=bH X G t.gT b1
 oU:=bH X G t.oU b3
 lD:=bH X G t.lD b1
 lY:=bH X G t.lY b1
 ir:=bH X G t.ir b2
 lE:=bH X G t.lE b1
 mW:=bH X G t.mW b2
 lF:=bH X G t.lF b1
 oV:=bH X G t.oV b2
 mX:=bH X G t.mX b2
 lG:=bH X G t.lG b2
 lH:=bH X G t.lH b1
 lI:=bH X G t.lI b3
 mY:=bH X G t.mY b2
 mZ:=bH X G t.mZ b4
 lJ:=bH X G t.lJ b1
 m6:=bH X G t.m6 b2
 lK:=bH X G t.lK b1
 kr:=bH X G t.kr b2
 gw:=bH X G t.gw b1
 j8:=bH X G t.j8 b2
 lL:=bH X G t.lL b1
 oW:=bH X G t.oW b1
 mq:=bH X G t.mq b1
 qW:=bH X G t.qW b1
 tW:=bH X G t.tW b2
 tX:=bH X G t.tX b2
 m7:=bH X G t.m7 b1
 lM:=bH X G t.lM b1
 qX:=bH X G t.qX b2
 lN:=bH X G t.lN b2
 m8:=bH X G t.m8 b3
 m9:=bH X G t.m9 b3
 lO:=bH X G t.lO b1
 oX:=bH X G t.oX b1
 iu:=bH X G t.iu b1
 m_:=bH X G t.m_ b1
 tY:=bH X G t.tY b2
 ng:=bH X G t.ng b1
 lP:=bH X G t.lP b1
 lQ:=bH X G t.lQ b3
 j4:=bH X G t.j4 b1
 oe:=bH X G t.oe b2
 j5:=bH X G t.j5 b2
 j6:=bH X G t.j6 b2
 oY:=bH X G t.oY b2
 qY:=bH X G t.qY b2
 nh:=bH X G t.nh b1
 ku:=bH X G t.ku b1
 jc:=bH X G t.jc b2
 j7:=bH X G t.j7 b2
 ni:=bH X G t.ni b1
 j9:=bH X G t.j9 b2
 oh:=bH X G t.oh b2
 og:=bH X G t.og b1
 nj:=bH X G t.nj b3
 kx:=bH X G t.kx b3
 fZ:=bH X G t.fZ b3
 f6:=bH X G t.f6 b2
 jE:=bH X G t.jE b3
 nq:=bH X G t.nq b3
theorem U4 {C:Addr} (X:K.In h) (G:h.Ns mainGlobals mg) (t:Tx K) (k:KT K C):Wd K mg C where
 T:=k.T
 bl:=⟨dG X G t.bt.len,dG X G t.bt.range,dG X G t.bt.list,dG X G t.bt.reversed,dG X G t.bt.enumerate,dG X G t.bt.zip,dG X G t.bt.all,dG X G t.bt.any,dG X G t.bt.sum⟩
 iS:=mr X G t.iS
 kE:=mr X G t.kE
 kn:=mr X G t.kn
 oa:=mr X G t.oa
 oO:=mr X G t.oO
 tP:=mr X G t.tP
 lA:=mr X G t.lA
 qR:=mr X G t.qR
 ko:=mr X G t.ko
 oP:=mr X G t.oP
 u6:=mr X G t.u6
 u7:=mr X G t.u7
 tQ:=mr X G t.tQ
 qp:=mr X G t.qp
 kq:=mr X G t.kq
 j0:=mr X G t.j0
 u9:=mr X G t.u9
 JS:=mr X G t.JS
 ja:=mr X G t.ja
 qr:=mr X G t.qr
 CU:=mr X G t.CU
 CV:=mr X G t.CV
 IA:=mr X G t.IA
 IB:=mr X G t.IB
 UD:=mr X G t.UD
 E7:=mr X G t.E7
 E8:=mr X G t.E8
 yS:=mr X G t.yS
 E9:=mr X G t.E9
 yT:=mr X G t.yT
 Mq:=mr X G t.Mq
 E_:=mr X G t.E_
 yU:=mr X G t.yU
 yV:=mr X G t.yV
 Fb:=mr X G t.Fb
 Fc:=mr X G t.Fc
 CW:=mr X G t.CW
 IC:=mr X G t.IC
 CY:=mr X G t.CY
 yW:=mr X G t.yW
 CZ:=mr X G t.CZ
 Oo:=mr X G t.Oo
 ID:=mr X G t.ID
 xr:=mr X G t.xr
 Fd:=mr X G t.Fd
 IE:=mr X G t.IE
 C0:=mr X G t.C0
 YC:=by
  obtain ⟨a,e,s⟩:=t.nb.ex
  exact ⟨_,.ref a,oi X G e,rfl,fun F=>xU (s F) (mn _)⟩
theorem all_mk {fa:Addr} (X:K.In h) (G:h.Ns mainGlobals mg) (hfa:mg "answers" = some (.ref fa)) (t:Tx K):∃fd:FuncData,(∀(s:Shared) (us:List Value),us.length=(["calls"]:List Str).length→BindsTo s fd ⟨us,[]⟩ ((["calls"]:List Str).zip us))∧∀base:Heap,K.In base→base.Ns mainGlobals mg→eI P w K mg base ia 100 fa fd ["calls"] (IP K):=by
 obtain ⟨f,oc,od,zO,kV,doc,pm,an,eU,ct,a,l,c,k⟩:=t.answers.ex
 have e:=hfa.symm.trans (oi X G a)
 cases e
 obtain ⟨C,kt⟩:=t.kt
 obtain ⟨f1,oc1,od1,abl,kV1,abm,pm1,an1,abn,ct1,a1,i1,l1,c1,k1⟩:=kt.ini
 have F1:=B_ (st:=zH) l1 c1 k1
 have bI:Binds K _ ["self"] []:=F1.binds (ps:=["self"]) fun _ _ _ _ _ _ us hl=>match us,hl with|[_],_=>rfl
 refine ⟨_,fun s us hu=>match us,hu with|[_],_=>.of_eq rfl,fun base _ _=>G_ (C:=C) (B_ (st:=top 132) l c k) (U4 X G t kt) (U3 X G t) ⟨f1,_,⟨kt.mks,a1,i1,kt.kc⟩,Dinit.ok F1 kt.T,oi X G kt.aC,bI⟩⟩
end
end Tn
set_option hygiene false in
macro "ftk" : tactic=>`(tactic| (refine' Tn.FT.mk' ?a ?l ?c ?k;(case a=>k_is);(case l=>k_is);(case c=>k_is);(case k=>k_is)))
set_option hygiene false in
macro "ctk" : tactic=>`(tactic| (refine' Tn.CT.mk' ?a;(case a=>k_is)))
open PySem PySem.W PyProof.Rows
set_option maxHeartbeats 0 in
theorem PySem.Challenge.cw_townclues_s01_answers_holds:PySem.Challenge.rw_townclues_s01_answers.Holds:=by
 w_on;k_headS;(case hw=>exact ⟨[.list [.int 7]],by decide +kernel,by decide +kernel⟩)
 k_fillS
 refine L2.Ge (r:=PySem.Challenge.rw_townclues_s01_answers) (k:=100) (CX:=L2.ia) (ps:=["calls"]) (sp:=Tn.IP) (by decide +kernel) rfl rfl ⟨rfl,by decide,by decide⟩ (fun w h Y=>PySem.W.kIn_of Y) ?F ?S (fun _ _ _ _ z=>z)
 case F =>
  intro w mg fa h Y KX G WZ
  refine Tn.all_mk KX G WZ ?tx
  constructor
  ·ftk
  ·ftk
  ·ftk
  ·ftk
  ·ftk
  ·ftk
  ·ftk
  ·ftk
  ·ftk
  ·ftk
  ·ftk
  ·ftk
  ·ftk
  ·ftk
  ·ftk
  ·ftk
  ·ftk
  ·ftk
  ·ftk
  ·ftk
  ·ftk
  ·ftk
  ·ftk
  ·ftk
  ·ftk
  ·ftk
  ·ftk
  ·ftk
  ·ftk
  ·ftk
  ·ftk
  ·ftk
  ·ftk
  ·ftk
  ·ftk
  ·ftk
  ·ftk
  ·ftk
  ·ftk
  ·ftk
  ·ftk
  ·ftk
  ·ftk
  ·ftk
  ·ftk
  ·ftk
  ·ftk
  ·ftk
  ·ftk
  ·ftk
  ·ftk
  ·ftk
  ·ftk
  ·ftk
  ·ftk
  ·ftk
  ·ftk
  ·ftk
  ·ftk
  ·ftk
  ·ftk
  ·ftk
  ·ftk
  ·ftk
  ·ftk
  ·ftk
  ·ftk
  ·ftk
  ·ftk
  ·ftk
  ·ftk
  ·ftk
  ·ftk
  ·ftk
  ·ftk
  ·ftk
  ·ftk
  ·ftk
  ·ftk
  ·ctk
  ·ctk
  ·ctk
  ·ctk
  ·ctk
  ·ctk
  ·ctk
  ·ctk
  ·ctk
  ·ctk
  ·ctk
  ·ctk
  ·ctk
  ·ctk
  ·ctk
  ·ctk
  ·ctk
  ·ctk
  ·ctk
  ·ctk
  ·ctk
  ·ctk
  ·ctk
  ·ctk
  ·ctk
  ·ctk
  ·ctk
  ·ctk
  ·ctk
  ·ctk
  ·ctk
  ·ctk
  ·ctk
  ·ctk
  ·ctk
  ·ctk
  ·ctk
  ·ctk
  ·ctk
  ·ctk
  ·ctk
  ·ctk
  ·ctk
  ·ctk
  ·ctk
  ·ctk
  ·ctk
  ·refine' Tn.NB.mk' ?e ?l ?v ?z
   (case e=>k_is);(case l=>k_is)
   (case v=>exact (.cons ⟨_,rfl⟩ (.cons ⟨_,rfl⟩ (.cons ⟨_,rfl⟩ (.cons ⟨_,rfl⟩ (.cons ⟨_,rfl⟩ (.cons ⟨_,rfl⟩ (.cons ⟨_,rfl⟩ (.cons ⟨_,rfl⟩ (.cons ⟨_,rfl⟩ (.cons ⟨_,rfl⟩ (.cons ⟨_,rfl⟩ (.cons ⟨_,rfl⟩ (.cons ⟨_,rfl⟩ (.cons ⟨_,rfl⟩ (.cons ⟨_,rfl⟩ (.cons ⟨_,rfl⟩ (.cons ⟨_,rfl⟩ (.cons ⟨_,rfl⟩ (.cons ⟨_,rfl⟩ (.cons ⟨_,rfl⟩ (.cons ⟨_,rfl⟩ (.cons ⟨_,rfl⟩ (.cons ⟨_,rfl⟩ (.cons ⟨_,rfl⟩ (.cons ⟨_,rfl⟩ (.cons ⟨_,rfl⟩ (.cons ⟨_,rfl⟩ (.cons ⟨_,rfl⟩ .nil)))))))))))))))))))))))))))))
   (case z=>decide)
  ·constructor<;>k_is
  ·refine' Tn.KT.mk' ?aC ?a1 ?i1 ?l1 ?c1 ?k1 ?pg ?hd ?po ?sa ?mk ?kc ?n1 ?n2 ?n3 ?n4 ?n5
   (case aC=>k_is);(case a1=>k_is);(case i1=>k_is);(case l1=>k_is);(case c1=>k_is);(case k1=>k_is);(case pg=>k_is);(case hd=>k_is);(case po=>k_is);(case sa=>k_is);(case mk=>k_is);(case kc=>k_is);(case n1=>k_is);(case n2=>k_is);(case n3=>k_is);(case n4=>k_is);(case n5=>k_is)
 case S =>
  intro K H xs a hO W3 Ya hx
  cases hx with
  | cons h1 h2 =>
   cases h2
   cases h1 with
   | lst hs ha =>
    have e:=L2.HB a.1 _ ha
    subst e
    obtain ⟨ks,wf,_,e2,e3,e4⟩:=Tn.Rm (l:=a.1) Ya
    have ev:a.1.map L2.V.int=Tn.vL (ks.flatMap Tn.Cl.flat):=by
     rw [e2];unfold Tn.vL Tn.zs;rw [a8];rfl
    rw [ev] at hs
    refine ⟨_,ks,rfl,hs,wf,by rw [←e3];exact e4,fun H' p hp=>?_⟩
    rw [←e3] at hp
    exact .lst (L2.eS.of hp) (L2.HA _)
