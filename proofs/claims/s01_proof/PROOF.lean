import PyProof.Rows.All
import Wide.All
import OpenK.AllK
import Wide.FinOn
import PyProof.EqAt
import PyProof.EqKinds
import PyProof.TupleCall
import KE.BitLaws
import Open.SpecLaws
import KE.OsHead
import KE.OsGo
import Kh321Spec
import PySem.Challenge.RW_townclues_s01_answers
set_option compiler.extract_closed false
open Bool renaming and_eq_true → aj, false_ne_true → aR, noConfusion → cR, or_eq_true → cY, eq_iff_iff → eh, not_eq_true' → fA, not_eq_false → i8, true_and → jK, and_eq_false_iff → lz, eq_false_iff → pL, not_eq_true → qb, and_comm → FW, and_eq_true_iff → Ka, or_eq_false_iff → Kc, false_eq_true → Na
open Int renaming toNat_natCast → ja, natCast_nonneg → kd, toNat_of_nonneg → nX
open Kh321 renaming Work → ag, say → aw, tower → aA, standing → aD, Abs → aE, Ans → aW, doing → a6, line → a7, clue → a8, all → bb, views → cz, seenFrom → dC, follow → dH, seen → dY, mirroredClues → d8, split → e_, readTown → fb, stuck → fg, turnedClues → fq, lines → fP, hint → fW, sign → fX, likes → gq, wrongs → gr, digit → gu, full → gF, setClue → gG, lineWays → gT, rows → jd, changed → jJ, edgeOf → kF, bits → ly, heights → lF, spares → mX, ways → oo, columns → uJ, Town → vN, list → vP, mirroredTown → vQ, turnedTown → Aa, lineBits → DN, BACK → DP, Clues → J2
open Kh321Neutral renaming nat → bp, asked1 → gj, sizes → rK, nats → sx, natural → Cf, within → DO, step → FR
open List renaming length_map → ah, getD_eq_getElem?_getD → ak, range → aq, getElem?_eq_getElem → au, length_append → ax, length_cons → az, mem_cons → aG, replicate → aH, size_toArray → aJ, map_cons → aO, length_range → aQ, mem_range → aT, all_eq_true → aZ, length_reverse → a9, map_map → ba, mem_map → bf, getElem?_set_ne → bo, map_append → bq, mem_cons_of_mem → bu, flatten_cons → bB, mem_append → bG, map_congr_left → bT, not_mem_nil → bV, getElem?_eq_none → b0, mem_singleton → b3, getElem?_set_self → b6, mem_of_getElem? → b7, getElem?_map → b8, foldl_cons → b9, flatMap_cons → b_, mem_cons_self → cg, getElem?_eq_some_iff → cv, replicate_succ → cM, mem_filter → cN, length_set → cO, lookup_cons → cQ, getElem_mem → cS, filter_congr → cU, length_take → c0, filter_cons → c5, findSome?_cons → c6, length_replicate → c9, append_assoc → de, all_cons → dk, mem_append_right → dB, reverse_cons → dZ, take_of_length_le → d7, filterMap_cons → d_, nil_append → fC, filter_filter → f7, length_filter_le → gc, mem_or_eq_of_mem_set → gm, append_nil → gn, exists_of_findSome?_eq_some → gz, map_reverse → gW, mem_flatMap → gX, range_succ_eq_map → iu, lookup → je, getElem?_append_right → jf, getElem?_append_left → jz, filter_map → j9, ext_getElem? → kT, any_eq_true → lG, any_cons → mi, length → mq, eq_nil_of_length_eq_zero → mr, getElem?_range → mW, getElem?_eq_none_iff → oQ, map_take → pU, map_drop → pV, getElem?_replicate → p_, map_flatMap → qa, zipIdx_cons → qc, nodup_cons → r4, length_singleton → sv, mem_of_mem_take → tI, getD_cons_zero → uK, sum_cons → vO, zip_cons_cons → wg, mem_replicate → wk, map_nil → x9, all_map → x_, eraseIdxIfInBounds_toArray → z8, length_drop → Af, map_id → Bs, of_mem_zip → Cb, count_cons → Cd, mem_zipIdx → Ce, findSome?_eq_none_iff → DS, drop_drop → DT, drop_left → DU, drop_eq_getElem_cons → FO, getElem?_zip_eq_some → FP, getLastD_eq_getLast? → FQ, length_eq_zero_iff → Hk, any_map → IV, getElem?_reverse → JZ, getElem?_toArray → J0, mem_iff_getElem? → J1, take_append_drop → J4, mem_append_left → J_, dropLast_concat → Kd, filter_eq_self → MM, mem_of_getElem → MO, flatMap_append → MP, getD_cons_succ → MQ, mem_filterMap → M8, foldl → M_, map_replicate → Nc, set_cons_zero → Nd, set_cons_succ → Nf, take_add_one → OJ, drop_length → Py, flatMap_map → Pz, flatten_nil → PB, mem_flatten → PD
open Nat renaming le_trans → aP, le_refl → aY, lt_of_lt_of_le → bE, zero_add → cj, ne_of_lt → cF, zero_le → c8, lt_irrefl → e7, mul_comm → e8, min_eq_left → fI, add_mul → gE, testBit_two_pow → gU, add_sub_cancel_left → hJ, one_mul → iw, zero_mul → kY, mul_le_mul → kZ, add_zero → k0, le_add_right → mj, div_eq_of_lt → ml, mul_le_mul_right → mV, le_of_succ_le → pT, lt_succ_self → q0, ne_of_gt → r0, add_comm → r6, testBit_or → uG, eq_of_testBit_eq → uH, add_assoc → wj, mod_lt → xu, le_of_eq → z7, lt_succ_of_lt → z9, mod_eq_of_lt → Br, mul_add_div → DL, mul_add_mod → DM, le_of_lt → JY, sub_zero → J3, add_mul_div_right → Kb, div_lt_of_lt_mul → MN, mul_le_mul_left → Nb, add_sub_cancel → OK
open Option renaming bind_eq_some_iff → ae, bind_some → bz, some → bC, isNone_iff_eq_none → DK, getD_none → M9
open PySem.W renaming Frag → ab, findIn → cK, nsIn → cV, keepIn → dt, mg_none_of → dI, emptyDict → dS, fnOf → fH, instObj → gd, codeIn → i7, hasDictIn → ou, mg_of → oO, plainGet → pK, makesIn → p9, methodObj → vK, plainOver → vM, takerIn → z6, length_le_weightAllW → z_, lookIn → Bq, isFn → FK, cellsFrom_some → FN, handedIn → MK, WRecords → ML, WalkOS → OI
set_option Elab.async false
set_option linter.all false
set_option Elab.async false
set_option linter.all false
set_option maxRecDepth 100000
namespace L2
open PySem PySem.Spec PyProof.Rows
noncomputable abbrev Key:=Sum Int Str
noncomputable def OL:Key→Value→Bool
 | .inl k,v=>Value.isInt k v
 | .inr x,v=>Value.isStrOf x v
noncomputable def VI (w:World):Key→Int
 | .inl k=>hashInt k
 | .inr x=>hashStr w x
theorem f9:∀{k:Key} {v:Value},OL k v=true→(∃i t,k=Sum.inl i∧v=Value.int i t)∨(∃x t,k=Sum.inr x∧v=Value.str x t)
 | .inl i,v,h=>by
  obtain ⟨t,e⟩:=Value.isInt_shape (k:=i) (v:=v) h
  exact .inl ⟨i,t,rfl,e⟩
 | .inr x,v,h=>by
  obtain ⟨t,e⟩:=Value.isStrOf_shape (x:=x) (v:=v) h
  exact .inr ⟨x,t,rfl,e⟩
theorem PF (a b:Int):decide ((Sum.inl a:Key)=Sum.inl b)=(a == b):=by
 by_cases e:a=b
 ·subst e;simp
 ·have h:¬(Sum.inl a:Key)=Sum.inl b:=fun q=>e (Sum.inl.inj q)
  rw [decide_eq_false h]
  exact (beq_eq_false_iff_ne.mpr e).symm
theorem PJ (a b:Str):decide ((Sum.inr a:Key)=Sum.inr b)=decide (a=b):=by
 by_cases e:a=b
 ·subst e;simp
 ·have h:¬(Sum.inr a:Key)=Sum.inr b:=fun q=>e (Sum.inr.inj q)
  rw [decide_eq_false h,decide_eq_false e]
theorem PK (a:Int) (b:Str):decide ((Sum.inl a:Key)=Sum.inr b)=false:=decide_eq_false (fun q=>nomatch q)
theorem PL (a:Str) (b:Int):decide ((Sum.inr a:Key)=Sum.inl b)=false:=decide_eq_false (fun q=>nomatch q)
noncomputable def Hl (prog:Program) (w:World):PySem.KeyKind prog w Key where
 is:=OL
 hash:=VI w
 inj:=fun v a b ha hb=>by
  rcases f9 ha with ⟨i,t,rfl,rfl⟩|⟨x,t,rfl,rfl⟩
  ·rcases f9 hb with ⟨j,u,rfl,e⟩|⟨y,u,rfl,e⟩
   ·injection e with e1 _;rw [e1]
   ·exact nomatch e
  ·rcases f9 hb with ⟨j,u,rfl,e⟩|⟨y,u,rfl,e⟩
   ·exact nomatch e
   ·injection e with e1 _;rw [e1]
 byValue:=fun k v h=>by
  rcases f9 h with ⟨i,t,rfl,rfl⟩|⟨x,t,rfl,rfl⟩<;>rfl
 pyHash:=fun hv h=>by
  rcases f9 hv with ⟨i,t,rfl,rfl⟩|⟨x,t,rfl,rfl⟩
  ·exact wpAny_pyHash_int h
  ·exact wpAny_pyHash_str h
 eqBool:=fun hu hv h=>by
  rcases f9 hu with ⟨i,t,rfl,rfl⟩|⟨x,t,rfl,rfl⟩
  ·rcases f9 hv with ⟨j,u,rfl,rfl⟩|⟨y,u,rfl,rfl⟩
   ·rw [PF] at h;exact wpAny_eqBool_int h
   ·rw [PK] at h;exact SeqAt.EqAt.int_str i t y u _ _ _ _ h
  ·rcases f9 hv with ⟨j,u,rfl,rfl⟩|⟨y,u,rfl,rfl⟩
   ·rw [PL] at h;exact SeqAt.EqAt.str_int x t j u _ _ _ _ h
   ·rw [PJ] at h;exact wpAny_eqBool_str h
 «strs»:=fun k x t v h=>by
  rcases f9 h with ⟨i,u,rfl,e⟩|⟨y,u,rfl,e⟩
  ·exact nomatch e
  ·injection e with e1 _
   subst e1
   cases v<;>rfl
end L2
namespace L2
open PySem PySem.Spec PyProof.Rows
inductive V where
 | gH|bl (b:Bool)|int (i:Int)|str (x:Str)|FU (b:Array UInt8)|U3 (b:UInt64)|ref (a:Addr)|ty (n:String)
 deriving DecidableEq
noncomputable def RelV:V→Value→Prop
 | .gH,u=>u=Value.none
 | .bl b,u=>u=Value.bool b
 | .int i,u=>∃t,u=Value.int i t
 | .str x,u=>∃t,u=Value.str x t
 | .FU b,u=>∃t,u=Value.bytes b t
 | .U3 b,u=>∃t,u=Value.float b t
 | .ref a,u=>u=Value.ref a
 | .ty n,u=>u=Value.type n
noncomputable abbrev Vals:List V→List Value→Prop:=Paired RelV
theorem Vals.length {xs:List V} {us:List Value} (r:Vals xs us):xs.length=us.length:=Paired.length r
theorem Vals.get:∀{xs:List V} {us:List Value} {i:Nat} {x:V},Vals xs us→xs[i]?=some x→∃u,us[i]?=some u∧RelV x u
 | _,_,_,_,.nil,e=>by simp at e
 | _,_,0,_,.cons r _,e=>by simp at e;subst e;exact ⟨_,rfl,r⟩
 | _,_,i+1,x,.cons _ t,e=>by
  obtain ⟨u,h1,h2⟩:=Vals.get (i:=i) (x:=x) t (by simpa using e)
  exact ⟨u,by simpa using h1,h2⟩
theorem Vals.set {x:V} {u:Value} (r:RelV x u):∀{xs:List V} {us:List Value} (i:Nat),Vals xs us→Vals (xs.set i x) (us.set i u)
 | _,_,_,.nil=>.nil
 | _,_,0,.cons _ t=>.cons r t
 | _,_,i+1,.cons q t=>.cons q (Vals.set r i t)
theorem Vals.append:∀{xs ys:List V} {us ws:List Value},Vals xs us→Vals ys ws→Vals (xs++ys) (us++ws)
 | _,_,_,_,.nil,s=>s
 | _,_,_,_,.cons r t,s=>.cons r (Vals.append t s)
theorem Vals.take:∀{xs:List V} {us:List Value} (n:Nat),Vals xs us→Vals (xs.take n) (us.take n)
 | _,_,0,_=>.nil
 | _,_,_+1,.nil=>.nil
 | _,_,n+1,.cons r t=>.cons r (Vals.take n t)
theorem Vals.drop:∀{xs:List V} {us:List Value} (n:Nat),Vals xs us→Vals (xs.drop n) (us.drop n)
 | _,_,0,r=>r
 | _,_,_+1,.nil=>.nil
 | _,_,n+1,.cons _ t=>Vals.drop n t
theorem Vals.none_of:∀{xs:List V} {us:List Value} {i:Nat},Vals xs us→xs[i]?=none→us[i]?=none:=fun {xs us i} r e=>by
 have h1:=r.length
 have h2:xs.length≤i:=oQ.mp e
 exact oQ.mpr (by omega)
noncomputable def Cg:Option V→Option Value→Prop
 | some v,some u=>RelV v u
 | none,none=>True
 | _,_=>False
noncomputable def KV {κ:Type}:List (κ×V)→List (κ×Value)→Prop:=Paired fun (p:κ×V) (q:κ×Value)=>p.1=q.1∧RelV p.2 q.2
noncomputable def kV:Key→V
 | .inl i=>.int i
 | .inr x=>.str x
inductive HO where
 | lst (xs:List V)
 | tup (xs:List V)
 | dK (ka:List (Key×V))|dT (ka:List (List Key×V))
 | set (S:Int→Bool) (n:Nat)
 | ins (C dx:Addr) (fs:List (Str×V))
 | own (x:Addr)
 | xd (fs:List (Str×V))
 | met (f x:Addr)
 | pW (lo hi:Int)
 | Ci (o:Obj) (u:HO)
 | PM (ps:Array Value)
 | ext (φ:Heap→Prop)
noncomputable abbrev Hp:=Addr→Option HO
noncomputable def upd (H:Hp) (a:Addr) (o:HO):Hp:=fun b=>if b=a then some o else H b
theorem aL {H:Hp} {a:Addr} {o:HO}:upd H a o a=some o:=by unfold upd;rw [if_pos rfl]
theorem aN {H:Hp} {a b:Addr} {o:HO} (h:b≠a):upd H a o b=H b:=by unfold upd;rw [if_neg h]
theorem ox {H:Hp} {a b:Addr} {o u:HO} (h:H a=some o) (h':H b=some u) (d:o≠u):a≠b:=by
 intro e;subst e;rw [h] at h';exact d (bC.inj h')
theorem bS {H:Hp} {a b:Addr} {o:HO} (h:H a=some o) (h':H b=none):a≠b:=by
 intro e;subst e;rw [h] at h';cases h'
section
variable (P:Program) (w:World)
noncomputable def jA (H:Hp) (h:Heap) (a:Addr):HO→Prop
 | .lst xs=>xs.length≤sizeLine∧∃(bU:List Value) (n:Nat),Vals xs bU∧h.get? a=some { cls:=.type "list",data:=.seq bU.toArray n }
 | .tup xs=>xs.length≤sizeLine∧∃bU:List Value,Vals xs bU∧IsTup h a bU.toArray
 | .dK ka=>ka.length≤sizeLine∧(a == sysModules)=false∧∃vs,KV ka vs∧h.DictOf (Hl P w) a vs
 | .dT ka=>ka.length≤sizeLine∧(a == sysModules)=false∧∃xs:List (List Key×Addr×Value),
   Paired (fun (p:List Key×V) (q:List Key×Addr×Value)=>p.1=q.1∧H q.2.1=some (.tup (p.1.map kV))∧RelV p.2 q.2.2) ka xs ∧
   ∃o es ep,h.get? a=some o∧o.ExactDict∧o.data=.dict es ep∧es.toList=xs.map (entryOfKey (tupleKind (Hl P w)))∧(xs.map (·.1)).Nodup
 | .set S n=>h.SetOf (intKind P w) a S n
 | .ins C dx fs=>H dx=some (.own a)∧fs.length≤1000∧dx≠a∧h.get? a=some (gd C dx) ∧
   ∃mA,h.Ns1 dx mA∧(∀f,Cg (fs.lookup f) (mA f))∧PySem.Within mA (fs.map (·.1))
 | .own _=>∃o,h.get? a=some o
 | .xd fs=>∃mA,h.Ns1 a mA∧∀f,Cg (fs.lookup f) (mA f)
 | .pW lo hi=>∃t u v,h.get? a=some { cls:=.type "range",data:=.fields #[.int lo t,.int hi u,.int 1 v] }
 | .Ci o u=>h.get? a=some o∧jA H h a u
 | .PM ps=>h.get? a=some { cls:=.none,data:=.fields ps }
 | .met f x=>h.get? a=some (vK (.ref f) (.ref x))
 | .ext φ=>φ h∧(∃o,h.get? a=some o)∧∀h1 h2:Heap,φ h1→(∀o,h1.get? a=some o→h2.get? a=some o)→φ h2
noncomputable def tJ (H:Hp) (h:Heap):Prop:=∀a o,H a=some o→jA P w H h a o
end
section
variable {P:Program} {w:World} {H H':Hp} {h h':Heap} {a:Addr} {o:HO}
theorem jA.lt (x:jA P w H h a o):a < h.objs.size:=by
 cases o with
 | lst xs=>obtain ⟨_,_,_,_,e⟩:=x;exact Heap.lt_size e
 | tup xs=>obtain ⟨_,_,_,p⟩:=x;exact p.lt
 | dK ka=>obtain ⟨_,_,_,_,o,_,_,e,_⟩:=x;exact Heap.lt_size e
 | dT ka=>obtain ⟨_,_,_,_,o,_,_,e,_⟩:=x;exact Heap.lt_size e
 | set S n=>obtain ⟨o,_,_,_,e,_⟩:=x;exact Heap.lt_size e
 | ins C dx fs=>obtain ⟨_,_,_,e,_⟩:=x;exact Heap.lt_size e
 | own y=>obtain ⟨_,e⟩:=x;exact Heap.lt_size e
 | xd fs=>obtain ⟨_,⟨_,_,_,e,_⟩,_⟩:=x;exact Heap.lt_size e
 | pW lo hi=>obtain ⟨_,_,_,e⟩:=x;exact Heap.lt_size e
 | Ci ob u=>obtain ⟨e,_⟩:=x;exact Heap.lt_size e
 | PM ps=>exact Heap.lt_size (show h.get? a=some _ from x)
 | met f y=>exact Heap.lt_size (show h.get? a=some _ from x)
 | ext φ=>obtain ⟨_,⟨_,e⟩,_⟩:=x;exact Heap.lt_size e
theorem Paired.R7 {α β:Type} {F G:α→β→Prop}:∀{R8:List α} {l₂:List β},Paired F R8 l₂→(∀a b,F a b→G a b)→Paired G R8 l₂
 | _,_,.nil,_=>.nil
 | _,_,.cons r t,f=>.cons (f _ _ r) (Paired.R7 t f)
theorem jA.FX (x:jA P w H h a o) (k:∀b u,(b=a∨H b=some (.own a))→h.get? b=some u→h'.get? b=some u)
  (ho:∀b,H b=some (.own a)→H' b=some (.own a)) (ht:∀b xs,H b=some (.tup xs)→H' b=some (.tup xs)):jA P w H' h' a o:=by
 induction o with
 | lst xs=>obtain ⟨z,bU,n,r,e⟩:=x;exact ⟨z,bU,n,r,k _ _ (.inl rfl) e⟩
 | tup xs=>obtain ⟨z,bU,r,ob,e,c⟩:=x;exact ⟨z,bU,r,ob,k _ _ (.inl rfl) e,c⟩
 | dK ka=>obtain ⟨z,y,vs,r,ob,es,ep,e,c⟩:=x;exact ⟨z,y,vs,r,ob,es,ep,k _ _ (.inl rfl) e,c⟩
 | dT ka =>
  obtain ⟨z,y,xs,r,ob,es,ep,e,c⟩:=x
  exact ⟨z,y,xs,Paired.R7 r fun p q z=>⟨z.1,ht _ _ z.2.1,z.2.2⟩,ob,es,ep,k _ _ (.inl rfl) e,c⟩
 | set S n=>obtain ⟨ob,es,ep,t,e,c⟩:=x;exact ⟨ob,es,ep,t,k _ _ (.inl rfl) e,c⟩
 | ins C dx fs =>
  obtain ⟨d,z,ne,e,mA,⟨od,es,ep,e2,c⟩,r⟩:=x
  exact ⟨ho _ d,z,ne,k _ _ (.inl rfl) e,mA,⟨od,es,ep,k _ _ (.inr d) e2,c⟩,r⟩
 | own y=>obtain ⟨ob,e⟩:=x;exact ⟨ob,k _ _ (.inl rfl) e⟩
 | xd fs=>obtain ⟨mA,⟨od,es,ep,e,c⟩,r⟩:=x;exact ⟨mA,⟨od,es,ep,k _ _ (.inl rfl) e,c⟩,r⟩
 | pW lo hi=>obtain ⟨t,u,v,e⟩:=x;exact ⟨t,u,v,k _ _ (.inl rfl) e⟩
 | Ci ob u ih=>obtain ⟨e,q⟩:=x;exact ⟨k _ _ (.inl rfl) e,ih q⟩
 | PM ps =>
  have e:h.get? a=some { cls:=.none,data:=.fields ps }:=x
  show h'.get? a=some { cls:=.none,data:=.fields ps }
  exact k a _ (.inl rfl) e
 | met f y =>
  have e:h.get? a=some (vK (.ref f) (.ref y)):=x
  show h'.get? a=some (vK (.ref f) (.ref y))
  exact k a _ (.inl rfl) e
 | ext φ=>obtain ⟨p,⟨o,e⟩,st⟩:=x;exact ⟨st _ _ p fun o q=>k _ _ (.inl rfl) q,⟨o,k _ _ (.inl rfl) e⟩,st⟩
theorem tJ.lt (x:tJ P w H h) (e:H a=some o):a < h.objs.size:=(x a o e).lt
theorem tJ.fresh (x:tJ P w H h) (e:h.objs.size≤a):H a=none:=by
 cases q:H a with
 | none=>rfl
 | some u=>exact absurd (bE (x.lt q) e) (e7 _)
theorem tJ.kept (x:tJ P w H h) (k:∀b u,h.get? b=some u→h'.get? b=some u):tJ P w H h':=fun a o e =>
 (x a o e).FX (fun b u _ q=>k b u q) (fun _ q=>q) fun _ _ q=>q
theorem tJ.laid (x:tJ P w H h) (k:∀b u,h.get? b=some u→h'.get? b=some u) (hp:h.objs.size≤a) (new:jA P w (upd H a o) h' a o):tJ P w (upd H a o) h':=fun b u e=>by
 have hn:=x.fresh hp
 by_cases hb:b=a
 ·subst hb;rw [aL] at e;cases e;exact new
 ·rw [aN hb] at e
  exact (x b u e).FX (fun c v _ q=>k c v q) (fun c q=>by rw [aN (bS q hn)];exact q) fun c xs q=>by rw [aN (bS q hn)];exact q
end
noncomputable def Rd (H:Hp) (a:Addr) (u:HO):Prop:=H a=some u∨∃o,H a=some (.Ci o u)
theorem Rd.ok {P:Program} {w:World} {H:Hp} {h:Heap} {a:Addr} {u:HO} (r:Rd H a u) (x:tJ P w H h):jA P w H h a u:=by
 rcases r with r|⟨o,r⟩
 ·exact x a u r
 ·obtain ⟨_,q⟩:=x a _ r
  exact q
noncomputable def U4:Option HO→Prop
 | some (.lst _)=>True
 | some (.dK _)=>True
 | some (.dT _)=>True
 | some (.set _ _)=>True
 | some (.ins _ _ _)=>True
 | some (.ext _)=>True
 | _=>False
section
variable {P:Program} {w:World} {H:Hp} {h h':Heap} {x e:Addr} {o':HO}
theorem tJ.write (ok:tJ P w H h) (mu:U4 (H x)) (he:e=x∨H e=some (.own x)) (k:∀b u,b≠e→h.get? b=some u→h'.get? b=some u) (RO:∃u,h'.get? e=some u)
  (new:jA P w (upd H x o') h' x o'):tJ P w (upd H x o') h':=fun b u q=>by
 have R9:∀c y,H c=some (.own y)→c≠x:=fun c y r z=>by subst z;rw [r] at mu;exact mu
 have VJ:∀c xs,H c=some (.tup xs)→c≠x:=fun c xs r z=>by subst z;rw [r] at mu;exact mu
 by_cases hb:b=x
 ·subst hb;rw [aL] at q;cases q;exact new
 ·rw [aN hb] at q
  by_cases PN:b=e
  ·have q':H b=some (.own x):=by
    rcases he with z|z
    ·exact absurd (PN.trans z) hb
    ·rw [PN];exact z
   rw [q] at q';cases q'
   obtain ⟨v,hv⟩:=RO
   exact ⟨v,by rw [PN];exact hv⟩
  ·refine (ok b u q).FX (fun c v hc r=>k c v ?_ r) (fun c r=>by rw [aN (R9 c b r)];exact r) fun c xs r=>by rw [aN (VJ c xs r)];exact r
   rcases hc with rfl|hc
   ·exact PN
   ·rintro rfl
    rcases he with z|z
    ·exact R9 c b hc z
    ·rw [hc] at z;cases z;exact hb rfl
end
structure Un (fs ex:List Addr) (H H':Hp) (h h':Heap):Prop where
 keep:∀b o,h.get? b=some o→H b=none→b ∉ fs→b ∉ ex→h'.get? b=some o
 slot:∀b o,h.get? b=some o→H b=none→b∈fs→b ∉ ex→∃sl,h'.get? b=some { o with slots:=sl }
 free:∀b o,h.get? b=some o→H b=none→b ∉ ex→H' b=none
 there:∀b o,h.get? b=some o→b ∉ ex→∃o',h'.get? b=some o'
 DV:∀b xs,H b=some (.tup xs)→H' b=some (.tup xs)
 Cj:∀b o u,H b=some (.Ci o u)→H' b=some (.Ci o u)
 DW:∀b ps,H b=some (.PM ps)→∃more,H' b=some (.PM (ps++more))
section
variable {fs Zg ex ex':List Addr} {H H1 H2:Hp} {h h1 h2 h':Heap} {a x e:Addr} {o:HO}
theorem Un.any (u:Un fs ex H H1 h h1) {b:Addr} {ob:Obj} (q:h.get? b=some ob) (n:H b=none) (hx:b ∉ ex):∃sl,h1.get? b=some { ob with slots:=sl }:=by
 by_cases hb:b∈fs
 ·exact u.slot b ob q n hb hx
 ·exact ⟨ob.slots,u.keep b ob q n hb hx⟩
theorem Un.kept (k:∀b u,h.get? b=some u→h'.get? b=some u):Un fs ex H H h h' :=
 ⟨fun b ob q _ _ _=>k b ob q,fun b ob q _ _ _=>⟨ob.slots,k b ob q⟩,fun _ _ _ n _=>n,fun b ob q _=>⟨ob,k b ob q⟩,fun _ _ q=>q,fun _ _ _ q=>q,fun _ ps q=>⟨#[],by rw [q];simp⟩⟩
theorem Un.refl:Un fs ex H H h h:=Un.kept fun _ _ q=>q
theorem Un.laid (k:∀b u,h.get? b=some u→h'.get? b=some u) (hp:h.objs.size≤a) (hn:H a=none):Un fs ex H (upd H a o) h h' where
 keep:=fun b u q _ _ _=>k b u q
 slot:=fun b u q _ _ _=>⟨u.slots,k b u q⟩
 free:=fun b u q n _=>by rw [aN (cF (bE (Heap.lt_size q) hp))];exact n
 there:=fun b u q _=>⟨u,k b u q⟩
 DV:=fun b xs q=>by rw [aN (bS q hn)];exact q
 Cj:=fun b u xs q=>by rw [aN (bS q hn)];exact q
 DW:=fun b ps q=>⟨#[],by rw [aN (bS q hn),q];simp⟩
theorem Un.write (mu:U4 (H x)) (he:e=x∨H e=some (.own x)) (k:∀b u,b≠e→h.get? b=some u→h'.get? b=some u) (RO:∃u,h'.get? e=some u):Un fs ex H (upd H x o) h h':=by
 have hx:∀b,H b=none→b≠x:=fun b n z=>by subst z;rw [n] at mu;exact mu
 have hb:∀b,H b=none→b≠e:=fun b n z=>by
  subst z
  rcases he with r|r
  ·exact hx b n r
  ·rw [n] at r;cases r
 have hm:∀b u,H b=some u→¬U4 (some u)→b≠x:=fun b u q nm z=>by subst z;rw [q] at mu;exact nm mu
 refine ⟨fun b u q n _ _=>k b u (hb b n) q,fun b u q n _ _=>⟨u.slots,k b u (hb b n) q⟩,fun b u q n _=>by rw [aN (hx b n)];exact n,fun b u q _=>?_,
  fun b xs q=>by rw [aN (hm b _ q fun z=>z)];exact q,fun b u xs q=>by rw [aN (hm b _ q fun z=>z)];exact q,fun b ps q=>⟨#[],by rw [aN (hm b _ q fun z=>z),q];simp⟩⟩
 by_cases PN:b=e
 ·subst PN;exact RO
 ·exact ⟨u,k b u PN q⟩
end
noncomputable def U5 (h:Heap) (H:Hp):List Addr:=(aq h.objs.size).filter fun a=>(H a).isSome
noncomputable def Ck (h:Heap) (H:Hp):Heap:=PySem.W.hideAll h (U5 h H)
theorem IW (h:Heap) (H:Hp):(Ck h H).objs.size=h.objs.size:=PySem.W.hideAll_size _ _
theorem Ke {h:Heap} {H:Hp} {b:Addr} {o:Obj} (e:h.get? b=some o) (n:H b=none):(Ck h H).get? b=some o :=
 PySem.W.hideAll_get _ e fun hm=>by
  have q:(H b).isSome=true:=(cN.mp hm).2
  rw [n] at q;simp at q
theorem Ng {h:Heap} {H:Hp} {b:Addr} {o:Obj} (e:(Ck h H).get? b=some o):h.get? b=some o∧H b=none:=by
 have e':h.get? b=some o:=PySem.W.of_hideAll (U5 h H) e
 refine ⟨e',?_⟩
 cases q:H b with
 | none=>rfl
 | some x =>
  have hm:b∈U5 h H:=cN.mpr ⟨aT.mpr (Heap.lt_size e'),by simp [q]⟩
  have z:(Ck h H).get? b=none:=PySem.W.hideAll_none (U5 h H) hm
  rw [z] at e;cases e
noncomputable def Nh (g h:Heap) (L:Addr):List (Addr×Obj):=(aq h.objs.size).filterMap fun a=>if a=L∨(g.get? a).isSome=true then none else (h.get? a).map fun o=>(a,o)
noncomputable def rest (g h:Heap) (L d:Addr):List (Addr×Obj):=(Nh g h L).filter fun p=>decide (p.1≠d)
end L2
namespace L2
open PySem PySem.Spec PyProof.Rows
structure Mod (K:ab) (mg:Str→Option Value) (base:Heap):Prop where
 VL:K.In base
 glob:base.Ns mainGlobals mg
 blt:∃mb,base.Ns builtinsNs mb∧∀x:Str,x ≠ "__name__" → mb x=bootBuiltins x
 nolimit:base.NoLimit
structure Cx where
 prog:Program
 w:World
 K:ab
 mg:Str→Option Value
 base:Heap
 A:Around
 N:List Str
 Bt:Shared
 R_:Hp
 env:Env
 outer:List Env
 stack:List Env
 ex:List Addr
 fn:Str→Bool
 calm:Bool
 pn:List (Addr×Obj)
 xe:Value→Shared→Prop
noncomputable def Kf (l:List Env):List Addr:=l.filterMap (·.frame)
noncomputable abbrev Cx.fs (X:Cx):List Addr:=Kf X.outer
noncomputable def OM (sc:Scope) (x:Str):Prop:=sc.names.lookup x=some .local∨sc.names.lookup x=some .cell∨sc.names.lookup x=some .free
noncomputable def Loc (sc:Scope) (x:Str):Prop:=sc.names.lookup x=some .local∨sc.names.lookup x=some .cell
noncomputable def Look (env:Env) (h:Heap) (m:Str→Option Value) (x:Str) (u:Value):Prop :=
 (env.kindOf x=some .local∧m x=some u)∨((env.kindOf x=some .cell∨env.kindOf x=some .free)∧∃c,env.cells.lookup x=some c∧h.IsCell c (some u))
structure Cx.Ok (X:Cx):Prop where
 mod:Mod X.K X.mg X.base
 kind:X.env.scope.kind=.function
 glob:X.env.globals=mainGlobals
 blt:X.env.builtins=builtinsNs
 above:X.Bt.heap.objs.size≤X.env.locals
 inj:∀x y c,X.env.cells.lookup x=some c→X.env.cells.lookup y=some c→x=y
 has:∀x,(X.env.kindOf x=some .cell∨X.env.kindOf x=some .free)→∃c,X.env.cells.lookup x=some c
 Sa:∀x c,X.fn x=true→X.env.cells.lookup x=some c→X.Bt.heap.objs.size≤c
 hd:X.calm=true→X.A.handled=none
 frames:X.A.frames=some X.stack
 U6:X.stack=X.outer∨(X.stack=X.env::X.outer∧X.env.frame=some X.env.locals)
 U7:∀b∈X.ex,b≠X.env.locals∧∀x c,X.env.cells.lookup x=some c→c≠b
 bs:∀b o,X.base.get? b=some o→X.Bt.heap.get? b=some o∧X.R_ b=none
 Kg:X.base.objs.size≤X.Bt.heap.objs.size
 Kh:∀b o,X.base.get? b=some o→b ∉ X.ex
 Ki:∀b∈X.ex,b ∉ X.fs
 uL:X.Bt.heap.FunFrames X.base X.outer
 ON:∀b∈X.fs,X.R_ b=none
structure Inv (X:Cx) (pins:List (Addr×Obj)) (σ:List (Option V)) (H:Hp) (s:Shared):Prop where
 ok:X.Ok
 os:s.os=X.Bt.os
 bare:AllBare s.gens
 base:Un X.fs X.ex X.R_ H X.Bt.heap s.heap
 loc:∃m,s.heap.Ns X.env.locals m∧∀(i:Nat) (x:Str) (v:V),X.N[i]?=some x→σ[i]?=some (some v)→OM X.env.scope x→∃u,RelV v u∧Look X.env s.heap m x u
 cell:∀x c,X.env.cells.lookup x=some c→∃v,s.heap.IsCell c v
 free:H X.env.locals=none
 qd:∀x c,X.env.cells.lookup x=some c→H c=none
 pin:∀p∈X.pn++pins,s.heap.get? p.1=some p.2∧H p.1=none∧p.1≠X.env.locals∧p.1 ∉ X.fs∧∀v,p.2.data≠.cell v
 gk:tJ X.prog X.w H s.heap
 len:σ.length=X.N.length
section
variable {X:Cx} {pins:List (Addr×Obj)} {σ:List (Option V)} {H H':Hp} {s:Shared} {h':Heap}
theorem Cx.Ok.VM (ok:X.Ok) {b:Addr} {o:Obj} (e:X.base.get? b=some o):b ∉ X.fs:=fun hb=>by
 have:=(ok.uL.mem hb).1
 rw [e] at this;cases this
theorem Inv.bs (I:Inv X pins σ H s):∀b o,X.base.get? b=some o→s.heap.get? b=some o∧H b=none:=fun b o e =>
 ⟨I.base.keep b o (I.ok.bs b o e).1 (I.ok.bs b o e).2 (I.ok.VM e) (I.ok.Kh b o e),I.base.free b o (I.ok.bs b o e).1 (I.ok.bs b o e).2 (I.ok.Kh b o e)⟩
theorem Inv.bk (I:Inv X pins σ H s):∀b o,X.base.get? b=some o→s.heap.get? b=some o:=fun b o e=>(I.bs b o e).1
theorem Inv.mod (I:Inv X pins σ H s):Mod X.K X.mg X.base:=I.ok.mod
theorem Inv.Kj (I:Inv X pins σ H s):X.K.In s.heap:=I.ok.mod.VL.keeps I.bk
theorem Inv.nolimit (I:Inv X pins σ H s):s.heap.NoLimit:=I.ok.mod.nolimit.keeps I.bk
theorem Inv.fr (I:Inv X pins σ H s):∃m,Fr X.base X.env.locals s.heap m :=
 let ⟨m,hn,_⟩:=I.loc
 ⟨m,hn,I.bk,aP I.ok.Kg I.ok.above⟩
theorem Inv.lt (I:Inv X pins σ H s):X.env.locals < s.heap.objs.size:=let ⟨_,hn,_⟩:=I.loc;hn.lt
theorem Inv.sz (I:Inv X pins σ H s):X.Bt.heap.objs.size≤s.heap.objs.size:=aP I.ok.above (JY I.lt)
theorem Inv.VN (I:Inv X pins σ H s) {a:Addr} (h:s.heap.objs.size≤a):a ∉ X.fs:=fun hb=>by
 obtain ⟨_,o,ho,_⟩:=I.ok.uL.mem hb
 exact absurd (bE (Heap.lt_size ho) (aP I.sz h)) (e7 _)
theorem Inv.PQ (I:Inv X pins σ H s):∀x c,X.env.cells.lookup x=some c→c≠X.env.locals:=fun x c e z=>by
 obtain ⟨v,o,ho,hd⟩:=I.cell x c e
 obtain ⟨m,⟨o',es,ep,MR,VO,_⟩,_⟩:=I.loc
 rw [z,MR] at ho;cases ho;rw [VO] at hd;cases hd
theorem Inv.uL (I:Inv X pins σ H s):s.heap.FunFrames X.base X.outer:=by
 have all:∀(l:List Env),(∀b∈Kf l,b∈X.fs)→X.Bt.heap.FunFrames X.base l→s.heap.FunFrames X.base l:=by
  intro l
  induction l with
  | nil=>intro _ _;trivial
  | cons env r ih =>
   intro hs hl
   obtain ⟨hk,⟨L,o,hf,hn,ho,hd⟩,hr⟩:=hl
   have hL:L∈X.fs:=hs L (by unfold Kf;rw [d_,hf];exact cg)
   obtain ⟨sl,e⟩:=I.base.slot L o ho (I.ok.ON L hL) hL fun z=>I.ok.Ki L z hL
   exact ⟨hk,⟨L,_,hf,hn,e,hd⟩,ih (fun b hb=>hs b (by unfold Kf;rw [d_,hf];exact bu _ hb)) hr⟩
 exact all X.outer (fun _ hb=>hb) I.ok.uL
theorem Inv.stack (I:Inv X pins σ H s):s.heap.FunFrames X.base X.stack:=by
 rcases I.ok.U6 with e|⟨e,hf⟩
 ·rw [e];exact I.uL
 ·rw [e]
  obtain ⟨m,hn,_⟩:=I.loc
  refine .cons (by rw [I.ok.kind];decide) hf hn ?_ I.uL
  exact Heap.get?_none_of_le (aP I.ok.Kg I.ok.above)
theorem Inv.FY (I:Inv X pins σ H s):∀b∈Kf X.stack,b∈X.env.locals::X.fs:=fun b hb=>by
 rcases I.ok.U6 with e|⟨e,hf⟩
 ·rw [e] at hb;exact bu _ hb
 ·rw [e] at hb
  unfold Kf at hb
  rw [d_,hf] at hb
  exact hb
theorem Inv.Hm (I:Inv X pins σ H s):∀b∈Kf X.stack,H b=none:=fun b hb=>by
 rcases aG.mp (I.FY b hb) with e|hb
 ·rw [e];exact I.free
 ·obtain ⟨_,o,ho,_⟩:=I.ok.uL.mem hb
  exact I.base.free b o ho (I.ok.ON b hb) fun z=>I.ok.Ki b z hb
theorem Inv.step {g':Array GenState} {t':Nat} {d':Drawn} {ch:List Addr} (I:Inv X pins σ H s)
  (J5:∀b∈ch,(b∈X.ex∨X.Bt.heap.objs.size≤b)∧b≠X.env.locals∧(∀x c,X.env.cells.lookup x=some c→c≠b)∧∀p∈X.pn++pins,p.1≠b)
  (keep:∀b o,b≠X.env.locals→b ∉ X.fs→b ∉ ch→s.heap.get? b=some o→H b=none→h'.get? b=some o)
  (slot:∀b o,b≠X.env.locals→b∈X.fs→b ∉ ch→s.heap.get? b=some o→H b=none→∃sl,h'.get? b=some { o with slots:=sl }) (free:∀b o,b ∉ ch→s.heap.get? b=some o→H b=none→H' b=none)
  (there:∀b o,b ∉ ch→s.heap.get? b=some o→∃o',h'.get? b=some o')
  (DV:∀b xs,H b=some (.tup xs)→H' b=some (.tup xs)) (Cj:∀b o u,H b=some (.Ci o u)→H' b=some (.Ci o u)) (DW:∀b ps,H b=some (.PM ps)→∃more,H' b=some (.PM (ps++more)))
  (ns:∀m,s.heap.Ns X.env.locals m→h'.Ns X.env.locals m) (gk:tJ X.prog X.w H' h') (hg:AllBare g') :
  Inv X pins σ H' { s with heap:=h',gens:=g',drawn:=d',toks:=t' }:=by
 have X_:∀b o,X.Bt.heap.get? b=some o→b≠X.env.locals:=fun b o e=>cF (bE (Heap.lt_size e) I.ok.above)
 have U8:∀b o,X.Bt.heap.get? b=some o→b ∉ X.ex→b ∉ ch:=fun b o e hx hb=>by
  rcases (J5 b hb).1 with z|z
  ·exact hx z
  ·exact absurd (bE (Heap.lt_size e) z) (e7 _)
 have cellK:∀x c,X.env.cells.lookup x=some c→∀v,s.heap.IsCell c v→h'.IsCell c v:=fun x c e v ⟨o,ho,hd⟩=>by
  have Sb:c ∉ ch:=fun z=>(J5 c z).2.2.1 x c e rfl
  by_cases hc:c∈X.fs
  ·obtain ⟨sl,q⟩:=slot c o (I.PQ x c e) hc Sb ho (I.qd x c e)
   exact ⟨_,q,hd⟩
  ·exact ⟨o,keep c o (I.PQ x c e) hc Sb ho (I.qd x c e),hd⟩
 refine ⟨I.ok,I.os,hg,⟨fun b o e n hb hx=>?_,fun b o e n hb hx=>?_,fun b o e n hx=>?_,fun b o e hx=>?_,fun b xs e=>DV b xs (I.base.DV b xs e),fun b o xs e=>Cj b o xs (I.base.Cj b o xs e),fun b ps e=>?_⟩,?_,fun x c e=>?_,?_,fun x c e=>?_,fun p hp=>?_,gk,I.len⟩
 ·exact keep b o (X_ b o e) hb (U8 b o e hx) (I.base.keep b o e n hb hx) (I.base.free b o e n hx)
 ·obtain ⟨sl,e1⟩:=I.base.slot b o e n hb hx
  obtain ⟨Zh,e2⟩:=slot b _ (X_ b o e) hb (U8 b o e hx) e1 (I.base.free b o e n hx)
  exact ⟨Zh,e2⟩
 ·obtain ⟨o',e1⟩:=I.base.there b o e hx
  exact free b o' (U8 b o e hx) e1 (I.base.free b o e n hx)
 ·obtain ⟨o',e1⟩:=I.base.there b o e hx
  exact there b o' (U8 b o e hx) e1
 ·obtain ⟨m1,e1⟩:=I.base.DW b ps e
  obtain ⟨m2,e2⟩:=DW b _ e1
  exact ⟨m1++m2,by rw [e2,Array.append_assoc]⟩
 ·obtain ⟨m,hn,hl⟩:=I.loc
  refine ⟨m,ns m hn,fun i x v e1 e2 e3=>?_⟩
  obtain ⟨u,r,l⟩:=hl i x v e1 e2 e3
  refine ⟨u,r,?_⟩
  rcases l with l|⟨k,c,e,z⟩
  ·exact .inl l
  ·exact .inr ⟨k,c,e,cellK x c e _ z⟩
 ·obtain ⟨v,z⟩:=I.cell x c e
  exact ⟨v,cellK x c e v z⟩
 ·obtain ⟨m,⟨o,_,_,ho,_⟩,_⟩:=I.loc
  exact free _ o (fun z=>(J5 _ z).2.1 rfl) ho I.free
 ·obtain ⟨v,o,ho,hd⟩:=I.cell x c e
  exact free c o (fun z=>(J5 c z).2.2.1 x c e rfl) ho (I.qd x c e)
 ·obtain ⟨e,n,ne,nf,d⟩:=I.pin p hp
  have Sb:p.1 ∉ ch:=fun z=>(J5 p.1 z).2.2.2 p hp rfl
  exact ⟨keep p.1 p.2 ne nf Sb e n,free p.1 p.2 Sb e n,ne,nf,d⟩
theorem Inv.un {t':Nat} (I:Inv X pins σ H s) (u:Un X.fs [] H H' s.heap h') (gk:tJ X.prog X.w H' h'):Inv X pins σ H' { s with heap:=h',toks:=t' }:=by
 obtain ⟨m,⟨o,es,ep,ho,r⟩,_⟩:=id I.loc
 obtain ⟨sl,hL⟩:=u.any ho I.free (by simp)
 exact I.step (g':=s.gens) (d':=s.drawn) (ch:=[]) (fun _ z=>nomatch z) (fun b o _ hb _ e n=>u.keep b o e n hb (by simp)) (fun b o _ hb _ e n=>u.slot b o e n hb (by simp)) (fun b o _ e n=>u.free b o e n (by simp)) (fun b o _ e=>u.there b o e (by simp)) u.DV u.Cj u.DW (fun m' hm=>by
  obtain ⟨o',RP,VP,MR,r'⟩:=hm
  rw [ho] at MR;cases MR
  exact ⟨_,RP,VP,hL,r'⟩) gk I.bare
theorem Inv.call {g':Array GenState} {t':Nat} {d':Drawn} {ch:List Addr} (I:Inv X pins σ H s) (u:Un (Kf X.stack) ch H H' s.heap h') (gk:tJ X.prog X.w H' h') (hg:AllBare g')
  (J5:∀b∈ch,(b∈X.ex∨X.Bt.heap.objs.size≤b)∧b≠X.env.locals∧(∀x c,X.env.cells.lookup x=some c→c≠b)∧∀p∈X.pn++pins,p.1≠b) :
  Inv X pins σ H' { s with heap:=h',gens:=g',drawn:=d',toks:=t' }:=by
 obtain ⟨m,⟨o,es,ep,ho,r⟩,_⟩:=id I.loc
 obtain ⟨sl,hL⟩:=u.any ho I.free fun z=>(J5 _ z).2.1 rfl
 exact I.step (ch:=ch) J5 (fun b o hL hb hc e n=>u.keep b o e n (fun z=>(aG.mp (I.FY b z)).elim hL hb) hc) (fun b o _ _ hc e n=>u.any e n hc) (fun b o hc e n=>u.free b o e n hc) (fun b o hc e=>u.there b o e hc) u.DV u.Cj u.DW (fun m' hm=>by
  obtain ⟨o',RP,VP,MR,r'⟩:=hm
  rw [ho] at MR;cases MR
  exact ⟨_,RP,VP,hL,r'⟩) gk hg
theorem Inv.turned {t':Nat} {it:Addr} (I:Inv X pins σ H s) (k:∀b o,b≠it→s.heap.get? b=some o→h'.get? b=some o) (hn:H it=none) (hL:it≠X.env.locals)
  (h1:it∈X.ex∨X.Bt.heap.objs.size≤it) (h2:∀x c,X.env.cells.lookup x=some c→c≠it) (h3:∀p∈X.pn++pins,p.1≠it):Inv X pins σ H { s with heap:=h',toks:=t' }:=by
 have OO:∀b u,H b=some u→b≠it:=fun b u e z=>by rw [z,hn] at e;cases e
 refine I.step (g':=s.gens) (d':=s.drawn) (ch:=[it]) (fun b hb=>?_) (fun b o _ _ hc e _=>k b o (fun z=>hc (by simp [z])) e) (fun b o _ _ hc e _=>⟨o.slots,k b o (fun z=>hc (by simp [z])) e⟩) (fun _ _ _ _ n=>n)
  (fun b o hc e=>⟨o,k b o (fun z=>hc (by simp [z])) e⟩) (fun _ _ e=>e) (fun _ _ _ e=>e) (fun b ps e=>⟨#[],by rw [e];simp⟩) (fun m hm=>?_) (fun b u e=>?_) I.bare
 ·have e:b=it:=by simpa using hb
  subst e
  exact ⟨h1,hL,h2,h3⟩
 ·obtain ⟨o,es,ep,ho,r⟩:=hm
  exact ⟨o,es,ep,k _ o (Ne.symm hL) ho,r⟩
 ·refine (I.gk b u e).FX (fun c v hc q=>k c v ?_ q) (fun _ q=>q) fun _ _ q=>q
  rcases hc with z|z
  ·rw [z];exact OO b u e
  ·exact OO c _ z
theorem Inv.tok (I:Inv X pins σ H s) (t:Nat):Inv X pins σ H { s with toks:=t }:=I.un (h':=s.heap) (t':=t) Un.refl I.gk
theorem Inv.kept {t':Nat} (I:Inv X pins σ H s) (k:∀b u,s.heap.get? b=some u→h'.get? b=some u):Inv X pins σ H { s with heap:=h',toks:=t' }:=I.un (Un.kept k) (I.gk.kept k)
theorem Inv.laid {a:Addr} {o:HO} {t':Nat} (I:Inv X pins σ H s) (k:∀b u,s.heap.get? b=some u→h'.get? b=some u) (hp:s.heap.objs.size≤a) (new:jA X.prog X.w (upd H a o) h' a o) :
  Inv X pins σ (upd H a o) { s with heap:=h',toks:=t' }:=I.un (Un.laid k hp (I.gk.fresh hp)) (I.gk.laid k hp new)
theorem Inv.write {x e:Addr} {o:HO} {t':Nat} (I:Inv X pins σ H s) (mu:U4 (H x)) (he:e=x∨H e=some (.own x)) (k:∀b u,b≠e→s.heap.get? b=some u→h'.get? b=some u) (RO:∃u,h'.get? e=some u)
  (new:jA X.prog X.w (upd H x o) h' x o):Inv X pins σ (upd H x o) { s with heap:=h',toks:=t' }:=I.un (Un.write mu he k RO) (I.gk.write mu he k RO new)
theorem Inv.weak {fJ:List (Option V)} (I:Inv X pins σ H s) (hl:fJ.length=σ.length) (w:∀(i:Nat) v,fJ[i]?=some (some v)→σ[i]?=some (some v)):Inv X pins fJ H s :=
 ⟨I.ok,I.os,I.bare,I.base,let ⟨m,hn,Zi⟩:=I.loc;⟨m,hn,fun i x v e1 e2 e3=>Zi i x v e1 (w i v e2) e3⟩,I.cell,I.free,I.qd,I.pin,I.gk,hl.trans I.len⟩
theorem Inv.Hn {OP:List (Addr×Obj)} (I:Inv X pins σ H s) (h:∀p∈OP,s.heap.get? p.1=some p.2∧H p.1=none∧p.1≠X.env.locals∧p.1 ∉ X.fs∧∀v,p.2.data≠.cell v):Inv X OP σ H s :=
 ⟨I.ok,I.os,I.bare,I.base,I.loc,I.cell,I.free,I.qd,fun p hp=>(bG.mp hp).elim (fun z=>I.pin p (J_ _ z)) (h p),I.gk,I.len⟩
theorem ya {N:List Str} (hN:N.Nodup) {i j:Nat} {x:Str} (a:N[i]?=some x) (b:N[j]?=some x):i=j:=by
 obtain ⟨h1,e1⟩:=cv.mp a
 obtain ⟨h2,e2⟩:=cv.mp b
 exact (List.getElem_inj hN).mp (e1.trans e2.symm)
theorem Bu {M:Model} {A:Around} {E:Value→Shared→Prop} {i:Nat} {x:Str} {v:V} {u:Value} {Q:Unit→Shared→Prop} (I:Inv X pins σ H s) (hN:X.N.Nodup) (hi:X.N[i]?=some x) (hx:Loc X.env.scope x) (r:RelV v u)
  (h:∀s',Inv X pins (σ.set i (some v)) H s'→(∃a,Heap.SameBut a s.heap s'.heap∧(a=X.env.locals∨X.env.cells.lookup x=some a))→Q () s') (hf:X.fn x=true∨X.env.scope.names.lookup x=some .local:=by first|exact .inl rfl|exact .inr rfl|assumption):wpAny M A (storeName X.env x u) Q E s:=by
 obtain ⟨m,hn,hl⟩:=id I.loc
 have VQ:(X.env.scope.kind == .class||(X.env.scope.kind == .module&&X.env.locals != X.env.globals))=false:=by rw [I.ok.kind];rfl
 have Sd:i < σ.length:=by rw [I.len];exact (cv.mp hi).1
 have PQ:=I.PQ
 have tracked:∀{a:Addr} {h':Heap},(∃o,s.heap.get? a=some o∧H a=none)→Heap.SameBut a s.heap h'→tJ X.prog X.w H h':=fun {a h'} ha hs b ob e=>by
  obtain ⟨_,_,vR⟩:=ha
  refine (I.gk b ob e).FX (fun c w' hc q=>(hs.2 c ?_).trans q) (fun _ q=>q) fun _ _ q=>q
  rintro rfl
  rcases hc with rfl|hc
  ·rw [vR] at e;cases e
  ·rw [vR] at hc;cases hc
 rcases hx with hk|hk
 ·refine wpAny_storeName_local hk hn (fun h' Zj hs=>?_) VQ
  obtain ⟨oL,_,_,Zk,_⟩:=id hn
  refine h _ ⟨I.ok,I.os,I.bare,⟨fun b o e n hb hx=>?_,fun b o e n hb hx=>?_,I.base.free,fun b o e hx=>?_,I.base.DV,I.base.Cj,I.base.DW⟩,⟨_,Zj,fun j y v' e1 e2 e3=>?_⟩,fun y c e=>?_,I.free,I.qd,fun p hp=>?_,tracked ⟨oL,Zk,I.free⟩ hs,by simpa using I.len⟩ ⟨_,hs,.inl rfl⟩
  ·exact (hs.2 b (cF (bE (Heap.lt_size e) I.ok.above))).trans (I.base.keep b o e n hb hx)
  ·obtain ⟨sl,e1⟩:=I.base.slot b o e n hb hx
   exact ⟨sl,(hs.2 b (cF (bE (Heap.lt_size e) I.ok.above))).trans e1⟩
  ·obtain ⟨o',e1⟩:=I.base.there b o e hx
   exact ⟨o',(hs.2 b (cF (bE (Heap.lt_size e) I.ok.above))).trans e1⟩
  ·by_cases hj:j=i
   ·subst hj
    rw [hi] at e1;cases e1
    rw [b6 Sd] at e2
    cases e2
    exact ⟨u,r,.inl ⟨hk,by simp⟩⟩
   ·rw [bo (Ne.symm hj)] at e2
    obtain ⟨u',r',q⟩:=hl j y v' e1 e2 e3
    refine ⟨u',r',?_⟩
    rcases q with ⟨k,e⟩|⟨k,c,e,z⟩
    ·refine .inl ⟨k,?_⟩
     have:y≠x:=fun e=>hj (ya hN e1 (e▸hi))
     simp [this,e]
    ·exact .inr ⟨k,c,e,z.sameBut hs (PQ y c e)⟩
  ·obtain ⟨w',z⟩:=I.cell y c e
   exact ⟨w',z.sameBut hs (PQ y c e)⟩
  ·obtain ⟨e,n,ne,nf,d⟩:=I.pin p hp
   exact ⟨(hs.2 p.1 ne).trans e,n,ne,nf,d⟩
 ·have VR:X.fn x=true:=by
   rcases hf with z|z
   ·exact z
   ·rw [z] at hk;cases hk
  obtain ⟨c,hc⟩:=I.ok.has x (.inl hk)
  obtain ⟨w',z⟩:=I.cell x c hc
  refine wpAny_storeName_cell I.ok.kind hk hc z (fun h' U9 hs=>?_)
  obtain ⟨oc,Ya,VS⟩:=id z
  refine h { s with heap:=h' } ⟨I.ok,I.os,I.bare,⟨fun b o e n hb hx=>?_,fun b o e n hb hx=>?_,I.base.free,fun b o e hx=>?_,I.base.DV,I.base.Cj,I.base.DW⟩,⟨m,hn.sameBut hs (Ne.symm (PQ x c hc)),fun j y v' e1 e2 e3=>?_⟩,fun y c' e=>?_,I.free,I.qd,fun p hp=>?_,tracked ⟨oc,Ya,I.qd x c hc⟩ hs,by simpa using I.len⟩ ⟨c,hs,.inr hc⟩
  ·exact (hs.2 b (cF (bE (Heap.lt_size e) (I.ok.Sa x c VR hc)))).trans (I.base.keep b o e n hb hx)
  ·obtain ⟨sl,e1⟩:=I.base.slot b o e n hb hx
   exact ⟨sl,(hs.2 b (cF (bE (Heap.lt_size e) (I.ok.Sa x c VR hc)))).trans e1⟩
  ·obtain ⟨o',e1⟩:=I.base.there b o e hx
   exact ⟨o',(hs.2 b (cF (bE (Heap.lt_size e) (I.ok.Sa x c VR hc)))).trans e1⟩
  ·by_cases hj:j=i
   ·subst hj
    rw [hi] at e1;cases e1
    rw [b6 Sd] at e2
    cases e2
    exact ⟨u,r,.inr ⟨.inl hk,c,hc,U9⟩⟩
   ·rw [bo (Ne.symm hj)] at e2
    obtain ⟨u',r',q⟩:=hl j y v' e1 e2 e3
    refine ⟨u',r',?_⟩
    rcases q with q|⟨k,c',e,z'⟩
    ·exact .inl q
    ·refine .inr ⟨k,c',e,z'.sameBut hs ?_⟩
     rintro rfl
     exact hj (ya hN e1 (I.ok.inj _ _ _ e hc▸hi))
  ·by_cases Yb:c'=c
   ·subst Yb;exact ⟨_,U9⟩
   ·obtain ⟨w2,z2⟩:=I.cell y c' e
    exact ⟨w2,z2.sameBut hs Yb⟩
  ·obtain ⟨e,n,ne,nf,d⟩:=I.pin p hp
   refine ⟨(hs.2 p.1 ?_).trans e,n,ne,nf,d⟩
   intro q
   rw [q,Ya] at e
   have q':oc=p.2:=bC.inj e
   exact d w' (by rw [←q'];exact VS)
theorem yb {M:Model} {A:Around} {E:Value→Shared→Prop} {i:Nat} {x:Str} {v:V} {u:Value} {Q:Unit→Shared→Prop} (I:Inv X pins σ H s) (hN:X.N.Nodup) (hi:X.N[i]?=some x) (hx:Loc X.env.scope x) (r:RelV v u)
  (h:∀s',Inv X pins (σ.set i (some v)) H s'→Q () s') (hf:X.fn x=true∨X.env.scope.names.lookup x=some .local:=by first|exact .inl rfl|exact .inr rfl|assumption):wpAny M A (storeName X.env x u) Q E s :=
 Bu I hN hi hx r (fun s' I' _=>h s' I') hf
theorem Inv.Se {s':Shared} {ch:List Addr} (I:Inv X pins σ H s) (ho:s'.os=s.os) (u:Un (Kf X.stack) ch H H' s.heap s'.heap) (gk:tJ X.prog X.w H' s'.heap) (hg:AllBare s'.gens)
  (J5:∀b∈ch,(b∈X.ex∨X.Bt.heap.objs.size≤b)∧b≠X.env.locals∧(∀x c,X.env.cells.lookup x=some c→c≠b)∧∀p∈X.pn++pins,p.1≠b):Inv X pins σ H' s':=by
 obtain ⟨h',g',d',t',o'⟩:=s'
 have e:o'=s.os:=ho
 subst e
 exact I.call (g':=g') (t':=t') (d':=d') u gk hg J5
end
noncomputable abbrev XK:=Value→Option Addr→Hp→Prop
noncomputable abbrev St:=List (Option V)
noncomputable abbrev VK:=V→Hp→Prop
noncomputable abbrev TE:=St→Hp→VK→Prop
noncomputable abbrev TT:=St→Hp→(Bool→Hp→Prop)→Prop
noncomputable abbrev TA:=St→Hp→(List V→Hp→Prop)→Prop
structure Ends where
 nx:St→Hp→Prop
 rt:VK
 bk:St→Hp→Prop:=fun _ _=>False
 ct:St→Hp→Prop:=fun _ _=>False
noncomputable abbrev TS:=Ends→St→Hp→Prop
noncomputable def EP (X:Cx) (pins:List (Addr×Obj)) (σ:St) (Q:VK) (u:Value) (s':Shared):Prop:=∃v H',Inv X pins σ H' s'∧RelV v u∧Q v H'
noncomputable def TP (X:Cx) (pins:List (Addr×Obj)) (σ:St) (Q:Bool→Hp→Prop) (b:Bool) (s':Shared):Prop:=∃H',Inv X pins σ H' s'∧Q b H'
noncomputable def AP (X:Cx) (pins:List (Addr×Obj)) (σ:St) (Q:List V→Hp→Prop) (us:List Value) (s':Shared):Prop:=∃vs H',Inv X pins σ H' s'∧Vals vs us∧Q vs H'
noncomputable def SP (X:Cx) (pins:List (Addr×Obj)) (D:Ends) (f:Flow) (s':Shared):Prop :=
 match f with
 | .next=>∃fJ H',Inv X pins fJ H' s'∧D.nx fJ H'
 | .brk=>∃fJ H',Inv X pins fJ H' s'∧D.bk fJ H'
 | .cont=>∃fJ H',Inv X pins fJ H' s'∧D.ct fJ H'
 | .ret u=>∃v fJ H',Inv X pins fJ H' s'∧RelV v u∧D.rt v H'
noncomputable def PE (X:Cx) (e:Expr) (t:TE):Prop :=
 ∀(pins:List (Addr×Obj)) (s:Shared) (σ:St) (H:Hp) (Q:VK),Inv X pins σ H s→t σ H Q→wpAny (model X.prog X.w) X.A (eval e X.env) (EP X pins σ Q) X.xe s
noncomputable def PT (X:Cx) (e:Expr) (t:TT):Prop :=
 ∀(pins:List (Addr×Obj)) (s:Shared) (σ:St) (H:Hp) (Q:Bool→Hp→Prop),Inv X pins σ H s→t σ H Q→wpAny (model X.prog X.w) X.A (isTrue e X.env (eval e X.env)) (TP X pins σ Q) X.xe s
noncomputable def PW (X:Cx) (e:Expr) (t:TT):Prop :=
 ∀(whole:Sem Value) (pins:List (Addr×Obj)) (s:Shared) (σ:St) (H:Hp) (Q:Bool→Hp→Prop),Inv X pins σ H s→t σ H Q→wpAny (model X.prog X.w) X.A (isTrue e X.env whole) (TP X pins σ Q) X.xe s
theorem PW.pt {X:Cx} {e:Expr} {t:TT} (h:PW X e t):PT X e t:=h _
noncomputable def PA (X:Cx) (es:List Expr) (t:TA):Prop :=
 ∀(pos:Pos) (pins:List (Addr×Obj)) (s:Shared) (σ:St) (H:Hp) (Q:List V→Hp→Prop),Inv X pins σ H s→t σ H Q→wpAny (model X.prog X.w) X.A (spliced (backTo pos (starEach es X.env))) (AP X pins σ Q) X.xe s
noncomputable def PS (X:Cx) (st:Stmt) (t:TS):Prop :=
 ∀(pins:List (Addr×Obj)) (s:Shared) (σ:St) (H:Hp) (D:Ends),Inv X pins σ H s→t D σ H→wpAny (model X.prog X.w) X.A (exec st X.env) (SP X pins D) X.xe s
noncomputable def wm (X:Cx) (st:List Stmt) (t:TS):Prop :=
 ∀(pins:List (Addr×Obj)) (s:Shared) (σ:St) (H:Hp) (D:Ends),Inv X pins σ H s→t D σ H→wpAny (model X.prog X.w) X.A (execs st X.env) (SP X pins D) X.xe s
theorem iy {α:Type} {t:Sem α} {Q Q':α→Shared→Prop} {M:Model} {A:Around} {E:Value→Shared→Prop} {s:Shared} (h:wpAny M A t Q E s) (hQ:∀a s,Q a s→Q' a s):wpAny M A t Q' E s:=wpAny_mono h hQ fun _ _ x=>x
end L2
namespace L2
open PySem PySem.Spec PyProof.Rows
section
variable {X:Cx}
theorem bin {a b:Expr} {ta tb:TE} (ha:PE X a ta) (hb:PE X b tb) {pins:List (Addr×Obj)} {s:Shared} {σ:St} {H:Hp} {R:V→V→Hp→Prop} (I:Inv X pins σ H s) (h:ta σ H fun x H1=>tb σ H1 fun y H2=>R x y H2)
  {α:Type} {Q:α→Shared→Prop} {f:Value→Value→Sem α}
  (hf:∀v u s2 x y H2,Inv X pins σ H2 s2→RelV x v→RelV y u→R x y H2→wpAny (model X.prog X.w) X.A (f v u) Q X.xe s2) :
  wpAny (model X.prog X.w) X.A (eval a X.env) (fun v fQ=>wpAny (model X.prog X.w) X.A (eval b X.env) (fun u qe=>wpAny (model X.prog X.w) X.A (f v u) Q X.xe qe) X.xe fQ) X.xe s:=by
 refine iy (ha pins s σ H _ I h) fun v s1 ⟨x,H1,I1,r1,q1⟩=>?_
 refine iy (hb pins s1 σ H1 _ I1 q1) fun u s2 ⟨y,H2,I2,r2,q2⟩=>?_
 exact hf v u s2 x y H2 I2 r1 r2 q2
noncomputable def sy (i:Nat):TE:=fun σ H Q=>∃v,σ[i]?=some (some v)∧Q v H
noncomputable def tC (v:V):TE:=fun _ H Q=>Q v H
theorem Cm {i:Nat} {x:Str} {pos:Pos} (hN:X.N[i]?=some x) (hv:OM X.env.scope x) (hd:(x == ("__debug__" : Str))=false:=by decide) (Kk:(x == ("__classdict__" : Str))=false:=by decide):PE X (.Name x pos) (sy i):=by
 intro pins s σ H Q I h
 obtain ⟨v,e,h⟩:=h
 obtain ⟨m,hn,hl⟩:=I.loc
 obtain ⟨u,r,l⟩:=hl i x v hN e hv
 have fin:EP X pins σ Q u s:=⟨v,H,I,r,h⟩
 rcases l with ⟨hk,hm⟩|⟨hk,c,hc,Ho⟩
 ·exact wpAny_Name (wpAny_loadName_local I.ok.kind hk hn hm fin) hd
 ·rcases hk with hk|hk
  ·exact wpAny_Name (wpAny_loadName_cell I.ok.kind hk hc Ho fin) hd
  ·exact wpAny_Name (wpAny_loadName_free I.ok.kind hk hc Ho fin Kk) hd
theorem sA {i j pos}:PE X (.Constant (.int i) j pos) (tC (.int i)):=fun _ _ _ H _ I h=>wpAny_Constant_int ⟨.int i,H,I.tok _,⟨_,rfl⟩,h⟩
theorem Sf {b j pos}:PE X (.Constant (.bool b) j pos) (tC (.bl b)):=fun _ _ _ H _ I h=>Constant_bool ⟨.bl b,H,I,rfl,h⟩
theorem PR {j pos}:PE X (.Constant .none j pos) (tC .gH):=fun _ _ _ H _ I h=>Constant_none ⟨.gH,H,I,rfl,h⟩
noncomputable def Gl (X:Cx) (x:Str):Prop:=X.env.kindOf x=some .globalImplicit
theorem Cn {E:Value→Shared→Prop} {pins:List (Addr×Obj)} {s:Shared} {σ:St} {H:Hp} {x:Str} {u:Value} {pos:Pos} {Q:Value→Shared→Prop} (I:Inv X pins σ H s) (hg:Gl X x) (hm:X.mg x=some u) (h:Q u s)
  (hd:(x == ("__debug__" : Str))=false:=by decide):wpAny (model X.prog X.w) X.A (eval (.Name x pos) X.env) Q E s :=
 Calls.Name_function_global I.ok.kind hg (Calls.loadGlobal_global (by rw [I.ok.glob];exact I.mod.glob.keeps I.bk) hm h) hd
theorem oR {E:Value→Shared→Prop} {pins:List (Addr×Obj)} {s:Shared} {σ:St} {H:Hp} {x:Str} {u:Value} {pos:Pos} {Q:Value→Shared→Prop} (I:Inv X pins σ H s) (hg:Gl X x) (hm:X.mg x=none) (hv:bootBuiltins x=some u) (h:Q u s)
  (hn:x ≠ "__name__" := by decide) (hd:(x == ("__debug__" : Str))=false:=by decide):wpAny (model X.prog X.w) X.A (eval (.Name x pos) X.env) Q E s:=by
 obtain ⟨mb,h1,h2⟩:=I.mod.blt
 exact Calls.Name_function_global I.ok.kind hg (Calls.loadGlobal_builtin (by rw [I.ok.glob];exact I.mod.glob.keeps I.bk) hm (by rw [I.ok.blt];exact h1.keeps I.bk) ((h2 x hn).trans hv) h) hd
theorem Ni {x:Str} {v:V} {u:Value} {pos:Pos} (hg:Gl X x) (hm:X.mg x=some u) (r:RelV v u) (hd:(x == ("__debug__" : Str))=false:=by decide):PE X (.Name x pos) (tC v) :=
 fun _ _ _ H _ I h=>Cn I hg hm ⟨v,H,I,r,h⟩ hd
variable {a b:Expr} {ta tb:TE} {pos:Pos}
noncomputable def PC (X:Cx) (op:CmpOp) (a b:Expr) (t:TE):Prop :=
 ∀(pins:List (Addr×Obj)) (s:Shared) (σ:St) (H:Hp) (Q:VK),Inv X pins σ H s→t σ H Q →
  wpAny (model X.prog X.w) X.A (eval a X.env) (fun v fQ=>wpAny (model X.prog X.w) X.A (eval b X.env) (fun u qe=>wpAny (model X.prog X.w) X.A (compareOp op v u) (EP X pins σ Q) X.xe qe) X.xe fQ) X.xe s
theorem Kl (b:Expr) {op:CmpOp} (h:op≠.In) (h2:op≠.NotIn):behindInMarks op b=false:=by
 have e1:(op == CmpOp.In)=false:=by cases op<;>first|rfl|exact absurd rfl h
 have e2:(op == CmpOp.NotIn)=false:=by cases op<;>first|rfl|exact absurd rfl h2
 cases b<;>simp [behindInMarks,e1,e2]
noncomputable def tB (t:TE):TT:=fun σ H Q=>t σ H fun x H1=>∃c,x=.bl c∧Q c H1
theorem VT {op:CmpOp} {t:TE} (h:PC X op a b t) (h1:behindInMarks op b=false:=by first|exact Kl _ (by decide) (by decide)|rfl):PT X (.Compare a [op] [b] pos) (tB t):=by
 intro pins s σ H Q I hw
 refine wpAny_isTrue_Compare1 (iy (h pins s σ H _ I hw) fun v s1 h1=>iy h1 fun u s2 h2=>iy h2 fun c s3 ⟨x,H1,I1,r1,q1⟩=>?_) h1
 obtain ⟨d,rfl,q⟩:=q1
 cases r1
 exact wpAny_truthy_bool ⟨H1,I1,q⟩
theorem PU {e:Expr} {t:TE} (h:PE X e t) (he:∀whole,isTrue e X.env whole=(do let v ←whole;standAt e.pos;holding [v] (truthy v)):=by intro _;rfl):PT X e (tB t):=by
 intro pins s σ H Q I hw
 refine isTrue_plain (iy (h pins s σ H _ I hw) fun v s1 ⟨x,H1,I1,r1,q1⟩=>?_) (he _)
 obtain ⟨d,rfl,q⟩:=q1
 cases r1
 exact wpAny_truthy_bool ⟨H1,I1,q⟩
variable {tA U_:TT} {rest:List Expr}
noncomputable def VU (t u:TT):TT:=fun σ H Q=>t σ H fun c H1=>if c=true then u σ H1 Q else Q false H1
noncomputable def Zl (t u:TT):TT:=fun σ H Q=>t σ H fun c H1=>if c=true then Q true H1 else u σ H1 Q
noncomputable def VV (t:TT):TT:=fun σ H Q=>t σ H fun c H1=>Q (!c) H1
theorem Nj (ha:PT X a tA):PW X (.BoolOp .And [a] pos) tA:=by
 intro wh pins s σ H Q I h
 refine isTrue_and (iy (ha pins s σ H Q I h) fun c s1 e=>?_)
 cases c with
 | true=>exact isTrue_and_nil e
 | false=>exact e
theorem PV (ha:PT X a tA):PW X (.BoolOp .Or [a] pos) tA:=by
 intro wh pins s σ H Q I h
 refine isTrue_or (iy (ha pins s σ H Q I h) fun c s1 e=>?_)
 cases c with
 | false=>exact isTrue_or_nil e
 | true=>exact e
theorem PX (ha:PT X a tA) (hb:PW X (.BoolOp .And (b::rest) pos) U_):PW X (.BoolOp .And (a::b::rest) pos) (VU tA U_):=by
 intro wh pins s σ H Q I h
 refine isTrue_and (iy (ha pins s σ H _ I h) fun c s1 ⟨H1,I1,q1⟩=>?_)
 cases c with
 | true=>exact hb wh pins s1 σ H1 Q I1 q1
 | false=>exact ⟨H1,I1,q1⟩
theorem Sg (ha:PT X a tA) (hb:PW X (.BoolOp .Or (b::rest) pos) U_):PW X (.BoolOp .Or (a::b::rest) pos) (Zl tA U_):=by
 intro wh pins s σ H Q I h
 refine isTrue_or (iy (ha pins s σ H _ I h) fun c s1 ⟨H1,I1,q1⟩=>?_)
 cases c with
 | true=>exact ⟨H1,I1,q1⟩
 | false=>exact hb wh pins s1 σ H1 Q I1 q1
theorem PY (ha:PT X a tA):PT X (.UnaryOp .Not a pos) (VV tA):=by
 intro pins s σ H Q I h
 exact isTrue_not (ha pins s σ H (fun c H1=>Q (!c) H1) I h)
noncomputable def Sh (ta tb:TE):TE:=fun σ H Q=>ta σ H fun x H1=>∃c,x=.bl c∧if c=true then tb σ H1 Q else Q (.bl false) H1
noncomputable def VW (ta tb:TE):TE:=fun σ H Q=>ta σ H fun x H1=>∃c,x=.bl c∧if c=true then Q (.bl true) H1 else tb σ H1 Q
noncomputable def Si (ta:TE):TE:=fun σ H Q=>ta σ H fun x H1=>∃c,x=.bl c∧Q (.bl (!c)) H1
theorem Km {op} {t:TE} (h:PE X a t):PE X (.BoolOp op [a] pos) t:=fun pins s σ H Q I hw=>BoolOp_one (h pins s σ H Q I hw)
theorem PZ (ha:PE X a ta) (hb:PE X (.BoolOp .And (b::rest) pos) tb):PE X (.BoolOp .And (a::b::rest) pos) (Sh ta tb):=by
 intro pins s σ H Q I h
 refine BoolOp_and (iy (ha pins s σ H _ I h) fun v s1 ⟨x,H1,I1,r1,q1⟩=>?_)
 obtain ⟨c,rfl,q1⟩:=q1
 cases r1
 refine wpAny_truthy_bool ?_
 cases c with
 | true=>exact hb pins s1 σ H1 Q I1 q1
 | false=>exact ⟨.bl false,H1,I1,rfl,q1⟩
theorem Sj (ha:PE X a ta) (hb:PE X (.BoolOp .Or (b::rest) pos) tb):PE X (.BoolOp .Or (a::b::rest) pos) (VW ta tb):=by
 intro pins s σ H Q I h
 refine BoolOp_or (iy (ha pins s σ H _ I h) fun v s1 ⟨x,H1,I1,r1,q1⟩=>?_)
 obtain ⟨c,rfl,q1⟩:=q1
 cases r1
 refine wpAny_truthy_bool ?_
 cases c with
 | false=>exact hb pins s1 σ H1 Q I1 q1
 | true=>exact ⟨.bl true,H1,I1,rfl,q1⟩
theorem P0 (ha:PE X a ta):PE X (.UnaryOp .Not a pos) (Si ta):=by
 intro pins s σ H Q I h
 refine UnaryOp_ (iy (ha pins s σ H _ I h) fun v s1 ⟨x,H1,I1,r1,q1⟩=>?_)
 obtain ⟨c,rfl,q1⟩:=q1
 cases r1
 exact not_of (wpAny_truthy_bool ⟨.bl (!c),H1,I1,rfl,q1⟩)
noncomputable def Zm (t:TT) (ta tb:TE):TE:=fun σ H Q=>t σ H fun c H1=>if c=true then ta σ H1 Q else tb σ H1 Q
theorem Kn {c:Expr} (hc:PT X c tA) (ha:PE X a ta) (hb:PE X b tb):PE X (.IfExp c a b pos) (Zm tA ta tb):=by
 intro pins s σ H Q I h
 refine wpAny_IfExp (iy (hc pins s σ H _ I h) fun d s1 ⟨H1,I1,q1⟩=>?_)
 cases d with
 | true=>exact ha pins s1 σ H1 Q I1 q1
 | false=>exact hb pins s1 σ H1 Q I1 q1
end
end L2
namespace L2
open PySem PySem.Spec PyProof.Rows
noncomputable def fo (K:ab) (H:Hp) (a:Addr) (xs:List V):Prop :=
 Rd H a (.lst xs) ∨
  ∃(o:Obj) (bU:Array Value) (n:Nat),K.lookup a=some o∧o.cls=.type "list" ∧ o.dict=none∧o.data=.seq bU n∧bU.size≤sizeLine∧Vals xs bU.toList
noncomputable def yc (K:ab) (H:Hp) (a:Addr) (xs:List V):Prop :=
 Rd H a (.tup xs) ∨
  ∃(o:Obj) (bU:Array Value) (n:Nat),K.lookup a=some o∧o.cls=.type "tuple" ∧ o.data=.seq bU n∧bU.size≤sizeLine∧Vals xs bU.toList
noncomputable def VX:Value→Option V
 | .none=>some .gH
 | .bool b=>some (.bl b)
 | .int i _=>some (.int i)
 | .str x _=>some (.str x)
 | .bytes b _=>some (.FU b)
 | .float b _=>some (.U3 b)
 | .ref a=>some (.ref a)
 | .type n=>some (.ty n)
 | _=>none
theorem RelV.abs {x:V} {u:Value} (r:RelV x u):VX u=some x:=by
 cases x with
 | gH=>cases r;rfl
 | bl _=>cases r;rfl
 | int _=>obtain ⟨t,rfl⟩:=r;rfl
 | str _=>obtain ⟨t,rfl⟩:=r;rfl
 | FU _=>obtain ⟨t,rfl⟩:=r;rfl
 | U3 _=>obtain ⟨t,rfl⟩:=r;rfl
 | ref _=>cases r;rfl
 | ty _=>cases r;rfl
theorem RelV.inj {x y:V} {u:Value} (r:RelV x u) (q:RelV y u):x=y:=bC.inj (r.abs.symm.trans q.abs)
theorem Vals.inj:∀{xs ys:List V} {us:List Value},Vals xs us→Vals ys us→xs=ys
 | _,_,_,.nil,.nil=>rfl
 | _,_,_,.cons r t,.cons r' t'=>by rw [r.inj r',Vals.inj t t']
section
variable {X:Cx} {pins:List (Addr×Obj)} {σ:St} {H:Hp} {s:Shared} {a:Addr} {xs ys:List V}
theorem fo.of {K:ab} (h:H a=some (.lst xs)):fo K H a xs:=.inl (.inl h)
theorem yc.of {K:ab} (h:H a=some (.tup xs)):yc K H a xs:=.inl (.inl h)
theorem Inv.list (I:Inv X pins σ H s) (h:fo X.K H a xs):∃bU:List Value,Vals xs bU∧PlainL s.heap a bU.toArray∧xs.length≤sizeLine:=by
 rcases h with h|⟨o,bU,n,hk,hc,hd,hs,hz,r⟩
 ·obtain ⟨z,bU,n,r,e⟩:=h.ok I.gk
  exact ⟨bU,r,⟨_,n,e,rfl,rfl,rfl⟩,z⟩
 ·refine ⟨bU.toList,r,⟨o,n,I.Kj a o hk,hc,hd,by simpa using hs⟩,?_⟩
  have e:=r.length
  simp only [Array.length_toList] at e
  omega
theorem Inv.tuple (I:Inv X pins σ H s) (h:yc X.K H a xs):∃bU:List Value,Vals xs bU∧IsTup s.heap a bU.toArray∧xs.length≤sizeLine:=by
 rcases h with h|⟨o,bU,n,hk,hc,hs,hz,r⟩
 ·obtain ⟨z,bU,r,p⟩:=h.ok I.gk
  exact ⟨bU,r,p,z⟩
 ·refine ⟨bU.toList,r,⟨o,I.Kj a o hk,hc,n,by simpa using hs⟩,?_⟩
  have e:=r.length
  simp only [Array.length_toList] at e
  omega
theorem Inv.qf (I:Inv X pins σ H s) (h:fo X.K H a xs) (h':fo X.K H a ys):xs=ys:=by
 obtain ⟨bU,r,⟨o,n,e,_,_,d⟩,_⟩:=I.list h
 obtain ⟨its',r',⟨o',n',e',_,_,d'⟩,_⟩:=I.list h'
 rw [e] at e';cases e'
 rw [d] at d'
 injection d' with d1 _
 have:bU=its':=by simpa using congrArg Array.toList d1
 subst this
 exact r.inj r'
end
noncomputable abbrev Cx.Ag (X:Cx) (E:Value→Shared→Prop):Cx:={ X with xe:=E }
noncomputable abbrev Cx.q5 (X:Cx):Cx:=X.Ag fun _ _=>False
theorem Cx.Ok.Ag {X:Cx} (ok:X.Ok) (E:Value→Shared→Prop):(X.Ag E).Ok :=
 ⟨ok.mod,ok.kind,ok.glob,ok.blt,ok.above,ok.inj,ok.has,ok.Sa,ok.hd,ok.frames,ok.U6,ok.U7,ok.bs,ok.Kg,ok.Kh,ok.Ki,ok.uL,ok.ON⟩
theorem Cx.Ok.qg {X:Cx} {E:Value→Shared→Prop} (ok:(X.Ag E).Ok):X.Ok :=
 ⟨ok.mod,ok.kind,ok.glob,ok.blt,ok.above,ok.inj,ok.has,ok.Sa,ok.hd,ok.frames,ok.U6,ok.U7,ok.bs,ok.Kg,ok.Kh,ok.Ki,ok.uL,ok.ON⟩
section
variable {X:Cx} {pins:List (Addr×Obj)} {σ:St} {H:Hp} {s:Shared} {E:Value→Shared→Prop}
theorem Inv.Ag (I:Inv X pins σ H s) (E:Value→Shared→Prop):Inv (X.Ag E) pins σ H s:=⟨I.ok.Ag E,I.os,I.bare,I.base,I.loc,I.cell,I.free,I.qd,I.pin,I.gk,I.len⟩
theorem Inv.qg (I:Inv (X.Ag E) pins σ H s):Inv X pins σ H s:=⟨I.ok.qg,I.os,I.bare,I.base,I.loc,I.cell,I.free,I.qd,I.pin,I.gk,I.len⟩
theorem SP.qg {D:Ends} {f:Flow} {s':Shared} (h:SP (X.Ag E) pins D f s'):SP X pins D f s':=by
 cases f with
 | next=>obtain ⟨fJ,H',I,q⟩:=h;exact ⟨fJ,H',I.qg,q⟩
 | brk=>obtain ⟨fJ,H',I,q⟩:=h;exact ⟨fJ,H',I.qg,q⟩
 | cont=>obtain ⟨fJ,H',I,q⟩:=h;exact ⟨fJ,H',I.qg,q⟩
 | ret u=>obtain ⟨v,fJ,H',I,r,q⟩:=h;exact ⟨v,fJ,H',I.qg,r,q⟩
theorem wm.q5 {st:List Stmt} {t:TS} (h:wm X.q5 st t):wm X st t:=fun pins s σ H D I hw =>
 wpAny_mono (h pins s σ H D (I.Ag _) hw) (fun _ _ q=>q.qg) fun _ _ z=>False.elim z
end
section
variable {X:Cx} {st:Stmt} {rest:List Stmt} {t u:TS} {e:Expr} {te:TE} {pos:Pos}
noncomputable def Ko:TS:=fun D σ H=>D.nx σ H
noncomputable def Nk (t u:TS):TS:=fun D σ H=>t { D with nx:=u D } σ H
theorem c_:wm X [] Ko:=fun _ _ σ H _ I h=>wpAny_execs_nil ⟨σ,H,I,h⟩
theorem aF (h1:PS X st t) (h2:wm X rest u):wm X (st::rest) (Nk t u):=by
 intro pins s σ H D I h
 refine wpAny_execs_cons (iy (h1 pins s σ H { D with nx:=u D } I h) fun f s1 q=>?_)
 cases f with
 | next =>
  obtain ⟨fJ,H',I',q⟩:=q
  exact h2 pins s1 fJ H' D I' q
 | ret v=>exact q
 | brk=>exact q
 | cont=>exact q
theorem bw (h1:PS X st t):wm X [st] t:=by
 intro pins s σ H D I h
 refine wpAny_execs_cons (iy (h1 pins s σ H D I h) fun f s1 q=>?_)
 cases f with
 | next=>exact wpAny_execs_nil q
 | ret v=>exact q
 | brk=>exact q
 | cont=>exact q
noncomputable def P1:TS:=fun D σ H=>D.bk σ H
noncomputable def Sk:TS:=fun D σ H=>D.ct σ H
theorem Nl:PS X (.Pass pos) Ko:=fun _ _ σ H _ I h=>wpAny_Pass ⟨σ,H,I,h⟩
theorem Kp:PS X (.Break pos) P1:=fun _ _ σ H _ I h=>wpAny_Break ⟨σ,H,I,h⟩
theorem DX:PS X (.Continue pos) Sk:=fun _ _ σ H _ I h=>wpAny_Continue ⟨σ,H,I,h⟩
theorem Inv.quiet {pins:List (Addr×Obj)} {σ:St} {H:Hp} {s:Shared} (I:Inv X pins σ H s):interactive X.env=false:=by simp [interactive,I.ok.kind]
noncomputable def DY (te:TE):TS:=fun D σ H=>te σ H fun _ H1=>D.nx σ H1
theorem jm (he:PE X e te) (hs:swapsWith e none pos.line X.env=pure false:=by rfl):PS X (.Expr e pos) (DY te):=by
 intro pins s σ H D I h
 exact wpAny_Expr_any (iy (he pins s σ H _ I h) fun v s1 ⟨x,H1,I1,r1,q1⟩=>⟨σ,H1,I1,q1⟩) I.quiet hs
noncomputable def Sm (te:TE):TS:=fun D σ H=>te σ H D.rt
theorem b5 (he:PE X e te):PS X (.Return (some e) pos) (Sm te):=by
 intro pins s σ H D I h
 exact wpAny_Return_some (iy (he pins s σ H _ I h) fun v s1 ⟨x,H1,I1,r1,q1⟩=>⟨x,σ,H1,I1,r1,q1⟩)
noncomputable def Sn (c:TT) (t u:TS):TS:=fun D σ H=>c σ H fun b H1=>if b=true then t D σ H1 else u D σ H1
theorem fS {c:Expr} {a b:List Stmt} {tc:TT} (hc:PT X c tc) (ha:wm X a t) (hb:wm X b u):PS X (.If c a b pos) (Sn tc t u):=by
 intro pins s σ H D I h
 refine wpAny_If (iy (hc pins s σ H _ I h) fun d s1 ⟨H1,I1,q1⟩=>?_)
 cases d with
 | true=>exact ha pins s1 σ H1 D I1 q1
 | false=>exact hb pins s1 σ H1 D I1 q1
end
noncomputable abbrev TG:=V→St→Hp→(St→Hp→Prop)→Prop
noncomputable abbrev P2:=List V→St→Hp→(St→Hp→Prop)→Prop
noncomputable def PG (X:Cx) (target:Expr) (t:TG):Prop :=
 ∀(pins:List (Addr×Obj)) (s:Shared) (σ:St) (H:Hp) (v:V) (u:Value) (Q:St→Hp→Prop),Inv X pins σ H s→RelV v u→t v σ H Q →
  wpAny (model X.prog X.w) X.A (assign target X.env u) (fun _ s'=>∃fJ H',Inv X pins fJ H' s'∧Q fJ H') X.xe s
noncomputable def Va (X:Cx) (ts:List Expr) (t:P2):Prop :=
 ∀(pins:List (Addr×Obj)) (s:Shared) (σ:St) (H:Hp) (vs:List V) (us:List Value) (Q:St→Hp→Prop),Inv X pins σ H s→Vals vs us→t vs σ H Q →
  wpAny (model X.prog X.w) X.A (assignInOrder ((assignEach ts X.env).map (·.2)) us) (fun _ s'=>∃fJ H',Inv X pins fJ H' s'∧Q fJ H') X.xe s
noncomputable abbrev P4:=V→V→V→Hp→(Hp→Prop)→Prop
noncomputable def So (X:Cx) (t:P4):Prop :=
 ∀(pins:List (Addr×Obj)) (s:Shared) (σ:St) (H:Hp) (o i v:V) (ov iv u:Value) (Q:Hp→Prop),Inv X pins σ H s→RelV o ov→RelV i iv→RelV v u→t o i v H Q →
  wpAny (model X.prog X.w) X.A (setItem ov iv u) (fun _ s'=>∃H',Inv X pins σ H' s'∧Q H') X.xe s
noncomputable abbrev Sq:=V→V→Hp→VK→Prop
noncomputable def RQ (X:Cx) (op:Operator) (t:Sq):Prop :=
 ∀(pins:List (Addr×Obj)) (s:Shared) (σ:St) (H:Hp) (x y:V) (v u:Value) (Q:VK),Inv X pins σ H s→RelV x v→RelV y u→t x y H Q →
  wpAny (model X.prog X.w) X.A (inplaceOp op v u) (EP X pins σ Q) X.xe s
section
variable {X:Cx} {pos:Pos}
noncomputable def lA (i:Nat):TG:=fun v σ H Q=>Q (σ.set i (some v)) H
theorem xw {i:Nat} {x:Str} (hN:X.N.Nodup) (hi:X.N[i]?=some x) (hx:Loc X.env.scope x) (hf:X.fn x=true∨X.env.scope.names.lookup x=some .local:=by first|exact .inl rfl|exact .inr rfl|assumption):PG X (.Name x pos) (lA i):=by
 intro pins s σ H v u Q I r h
 exact wpAny_assign_Name (yb I hN hi hx r (fun s' I'=>⟨_,H,I',h⟩) hf)
noncomputable def Sr:P2:=fun vs σ H Q=>vs=[]∧Q σ H
noncomputable def Kq (t:TG) (u:P2):P2:=fun vs σ H Q=>∃v r,vs=v::r∧t v σ H fun fJ H'=>u r fJ H' Q
theorem Nm:Va X [] Sr:=by
 intro pins s σ H vs us Q I r h
 obtain ⟨e,h⟩:=h
 subst e
 cases r
 exact assignInOrder_nil ⟨σ,H,I,h⟩
theorem DZ {e:Expr} {es:List Expr} {t:TG} {u:P2} (h1:PG X e t) (h2:Va X es u)
  (hs:(assignEach (e::es) X.env).map (·.2)=assign e X.env::(assignEach es X.env).map (·.2):=by rfl):Va X (e::es) (Kq t u):=by
 intro pins s σ H vs us Q I r h
 obtain ⟨v,vr,e1,h⟩:=h
 subst e1
 cases r with
 | cons r rr =>
  rw [hs]
  refine assignInOrder_cons (iy (h1 pins s σ H _ _ _ I r h) fun _ s1 ⟨OQ,H1,I1,q1⟩=>?_)
  exact h2 pins s1 OQ H1 _ _ Q I1 rr q1
noncomputable def Su (K:ab) (n:Nat) (t:P2):TG:=fun v σ H Q=>∃a xs,v=.ref a∧yc K H a xs∧xs.length=n∧t xs σ H Q
theorem P5 {es:List Expr} {k:Nat} {t:P2} {n:Nat} (hc:X.calm=true) (h:Va X es t)
  (hn:(assignEach es X.env).length=n:=by rfl) (P6:(assignEach es X.env).findIdx? (·.1)=none:=by rfl):PG X (.Tuple es k pos) (Su X.K n t):=by
 intro pins s σ H v u Q I r hw
 obtain ⟨a,xs,e1,hq,hl,hw⟩:=hw
 subst e1
 cases r
 obtain ⟨bU,rv,ht,hz⟩:=I.tuple hq
 refine assign_Tuple_tuple (I.ok.hd hc) ht (by simp [hn,←hl,rv.length]) P6 fun h' hx=>?_
 have I1:Inv X pins σ H { s with heap:=h' }:=I.kept (t':=s.toks) fun b o e=>hx b o (cF (Heap.lt_size e)) e
 exact h pins _ σ H xs _ Q I1 (by simpa using rv) hw
noncomputable def VY (to ti:TE) (t:P4):TG:=fun v σ H Q=>to σ H fun o H1=>ti σ H1 fun i H2=>t o i v H2 fun H3=>Q σ H3
theorem Co {o i:Expr} {to ti:TE} {t:P4} (ho:PE X o to) (hi:PE X i ti) (hs:So X t)
  (ha:∀v,assign (.Subscript o i pos) X.env v=(do
   let ov ←holding [v] (eval o X.env)
   let iv ←holding [v,ov] (eval i X.env)
   standAt pos
   holding [v,ov,iv] (setItem ov iv v)
   release [v,ov,iv] []):=by intro _;rfl):PG X (.Subscript o i pos) (VY to ti t):=by
 intro pins s σ H v u Q I r h
 rw [ha]
 refine wpAny_bind (wpAny_holding (iy (ho pins s σ H _ I h) fun ov s1 ⟨x,H1,I1,r1,q1⟩=>?_))
 refine wpAny_bind (wpAny_holding (iy (hi pins s1 σ H1 _ I1 q1) fun iv s2 ⟨y,H2,I2,r2,q2⟩=>?_))
 refine wpAny_bind (wpAny_standAt (wpAny_bind (wpAny_holding (iy (hs pins s2 σ H2 x y v ov iv u _ I2 r1 r2 r q2) fun _ s3 ⟨H3,I3,q3⟩=>?_))))
 exact wpAny_release ⟨σ,H3,I3,q3⟩
noncomputable def wo (te:TE) (g:TG):TS:=fun D σ H=>te σ H fun x H1=>g x σ H1 D.nx
theorem Cp {tg e:Expr} {te:TE} {g:TG} (he:PE X e te) (hg:PG X tg g) (hs:swapsWithSole [tg] e pos.line X.env=pure false:=by rfl) (hw:swappedStores [tg] e X.env=pure none:=by rfl)
  (h1:(assignEach [tg] X.env).map (·.2)=[assign tg X.env]:=by rfl):PS X (.Assign [tg] e pos) (wo te g):=by
 intro pins s σ H D I h
 refine wpAny_Assign_stores (iy (he pins s σ H _ I h) fun v s1 ⟨x,H1,I1,r1,q1⟩=>?_) hs hw
 rw [h1]
 exact iy (hg pins s1 σ H1 x v _ I1 r1 q1) fun _ s2 q=>q
theorem dh {i:Nat} {x:Str} {e:Expr} {te:TE} {pos':Pos} (hN:X.N.Nodup) (hi:X.N[i]?=some x) (hx:Loc X.env.scope x) (he:PE X e te) (hs:swapsWith e (some (.Name x pos')) pos.line X.env=pure false:=by rfl) (hf:X.fn x=true∨X.env.scope.names.lookup x=some .local:=by first|exact .inl rfl|exact .inr rfl|assumption) :
  PS X (.Assign [.Name x pos'] e pos) (wo te (lA i)):=by
 intro pins s σ H D I h
 refine wpAny_Assign_Name (iy (he pins s σ H _ I h) fun v s1 ⟨y,H1,I1,r1,q1⟩=>?_) hs
 exact yb I1 hN hi hx r1 (fun s2 I2=>⟨_,H1,I2,q1⟩) hf
noncomputable def VZ (i:Nat) (te:TE) (ti:Sq):TS:=fun D σ H=>∃x,σ[i]?=some (some x)∧te σ H fun y H1=>ti x y H1 fun z H2=>D.nx (σ.set i (some z)) H2
theorem Kr {i:Nat} {x:Str} {e:Expr} {te:TE} {op:Operator} {ti:Sq} {pos':Pos} (hN:X.N.Nodup) (hi:X.N[i]?=some x) (hx:Loc X.env.scope x) (he:PE X e te) (ho:RQ X op ti) (hf:X.fn x=true∨X.env.scope.names.lookup x=some .local:=by first|exact .inl rfl|exact .inr rfl|assumption) :
  PS X (.AugAssign (.Name x pos') op e pos) (VZ i te ti):=by
 intro pins s σ H D I h
 obtain ⟨v,e1,h⟩:=h
 obtain ⟨m,hn,hl⟩:=I.loc
 have Zn:OM X.env.scope x:=by rcases hx with k|k;exact .inl k;exact .inr (.inl k)
 obtain ⟨u,r,l⟩:=hl i x v hi e1 Zn
 refine wpAny_AugAssign_Name ?_
 have go:wpAny (model X.prog X.w) X.A (eval e X.env) (fun w qe=>wpAny (model X.prog X.w) X.A (inplaceOp op u w) (fun r Ks=>wpAny (model X.prog X.w) X.A (storeName X.env x r) (fun _=>SP X pins D .next) X.xe Ks) X.xe qe) X.xe s:=by
  refine iy (he pins s σ H _ I h) fun w s1 ⟨y,H1,I1,r1,q1⟩=>?_
  refine iy (ho pins s1 σ H1 v y u w _ I1 r r1 q1) fun z s2 ⟨zv,H2,I2,r2,q2⟩=>?_
  exact yb I2 hN hi hx r2 (fun s3 I3=>⟨_,H2,I3,q2⟩) hf
 rcases l with ⟨hk,hm⟩|⟨hk,c,hc,Ho⟩
 ·exact wpAny_loadName_local I.ok.kind hk hn hm go
 ·rcases hk with hk|hk
  ·exact wpAny_loadName_cell I.ok.kind hk hc Ho go
  ·rcases hx with k|k
   ·have:X.env.scope.names.lookup x=some .free:=hk
    rw [k] at this;cases this
   ·have:X.env.scope.names.lookup x=some .free:=hk
    rw [k] at this;cases this
noncomputable def V0 (f:Int→Int→Int):Sq:=fun x y H Q=>∃i j,x=.int i∧y=.int j∧Q (.int (f i j)) H
theorem Kt:RQ X .Add (V0 fun i j=>i+j):=by
 intro pins s σ H x y v u Q I r1 r2 h
 obtain ⟨i,j,e1,e2,q⟩:=h
 subst e1;subst e2
 obtain ⟨t,rfl⟩:=r1
 obtain ⟨t',rfl⟩:=r2
 exact iadd_int ⟨.int _,H,I.tok _,⟨_,rfl⟩,q⟩
theorem P7:RQ X .Sub (V0 fun i j=>i - j):=by
 intro pins s σ H x y v u Q I r1 r2 h
 obtain ⟨i,j,e1,e2,q⟩:=h
 subst e1;subst e2
 obtain ⟨t,rfl⟩:=r1
 obtain ⟨t',rfl⟩:=r2
 exact isub_int ⟨.int _,H,I.tok _,⟨_,rfl⟩,q⟩
end
section
variable {X:Cx} {pos:Pos}
noncomputable def P8 (c:TT) (tb:TS):TS:=fun D σ H=>∃W:Nat→St→Hp→Prop,(∃m,W m σ H)∧∀m σ H,W m σ H →
 c σ H fun b H1=>if b=true then ∃N:St→Hp→Prop,(∀fJ H',N fJ H'→∃m',m' < m∧W m' fJ H')∧tb { D with nx:=N,ct:=N,bk:=D.nx } σ H1 else D.nx σ H1
theorem D1 {c:Expr} {body:List Stmt} {tc:TT} {tb:TS} (hp:PassesOwn (model X.prog X.w) X.A X.env X.xe) (hc:PT X c tc) (hb:wm X body tb):PS X (.While c body [] pos) (P8 tc tb):=by
 intro pins s σ H D I h
 obtain ⟨W,⟨m0,w0⟩,turn⟩:=h
 refine wpAny_While (codeAny_whileLoop (fun n s'=>∃fJ H',Inv X pins fJ H' s'∧W n fJ H') ?_ m0 ⟨σ,H,I,w0⟩)
 rintro n s1 ⟨OQ,H1,I1,w1⟩
 refine wpAny_passesOwn hp (iy (hc pins s1 OQ H1 _ I1 (turn n OQ H1 w1)) fun b s2 ⟨H2,I2,q2⟩=>?_)
 cases b with
 | true =>
  obtain ⟨N,hN,q2⟩:=q2
  rw [if_pos rfl]
  refine wpAny_passesOwn hp (iy (hb pins s2 OQ H2 _ I2 q2) fun f s3 q3=>?_)
  cases f with
  | next =>
   obtain ⟨Ku,H3,I3,n3⟩:=q3
   obtain ⟨m',hm,w3⟩:=hN Ku H3 n3
   exact ⟨m',hm,Ku,H3,I3,w3⟩
  | cont =>
   obtain ⟨Ku,H3,I3,n3⟩:=q3
   obtain ⟨m',hm,w3⟩:=hN Ku H3 n3
   exact ⟨m',hm,Ku,H3,I3,w3⟩
  | brk=>exact q3
  | ret v=>exact q3
 | false =>
  rw [if_neg aR]
  exact wpAny_execs_nil ⟨OQ,H2,I2,q2⟩
end
structure It where
 go:Nat→Hp→Prop
 IX:Nat→Hp→V→Hp→Prop
 stop:Nat→Hp→Prop
noncomputable def uM (X:Cx) (pins:List (Addr×Obj)) (H:Hp) (b:Addr):Prop :=
 H b=none∧b≠X.env.locals∧b ∉ X.fs∧(b∈X.ex∨X.Bt.heap.objs.size≤b)∧(∀x c,X.env.cells.lookup x=some c→c≠b)∧∀p∈X.pn++pins,p.1≠b
theorem Inv.FZ {X:Cx} {pins:List (Addr×Obj)} {σ:St} {H H':Hp} {s:Shared} {b:Addr} (I:Inv X pins σ H s) (hb:s.heap.objs.size≤b) (hn:H' b=none):uM X pins H' b:=by
 refine ⟨hn,r0 (bE I.lt hb),I.VN hb,.inr (aP I.sz hb),fun x c e z=>?_,fun p hp z=>?_⟩
 ·obtain ⟨v,q⟩:=I.cell x c e
  exact absurd (bE q.lt (by rw [z];exact hb)) (e7 _)
 ·exact absurd (bE (Heap.lt_size (I.pin p hp).1) (by rw [z];exact hb)) (e7 _)
structure Turn (P:Program) (w:World) (K:ab) (tg:Expr) (J:It) (fp:List Addr) (it:Addr) (tn:Nat→Heap→Prop):Prop where
 mem:it∈fp
 obj:∀i h,tn i h→∀b∈fp,∃o,h.get? b=some o∧∀v,o.data≠.cell v
 keep:∀i h h',tn i h→(∀b∈fp,∀o,h.get? b=some o→h'.get? b=some o)→tn i h'
 item:∀(X:Cx),X.prog=P→X.w=w→X.K=K→X.calm=true→∀(i:Nat) (pins:List (Addr×Obj)) (s:Shared) (σ:St) (H:Hp) (E:Value→Shared→Prop),Inv X pins σ H s→(∀b∈fp,uM X pins H b)→tn i s.heap→J.go i H →
  wpAny (model P w) X.A (pyNext (.ref it)) (fun r s1=>∃u,r=some u ∧
   wpAny (model P w) X.A (letOwnedTupleGo tg (.ref it) u) (fun _ s2=>∃x H',Inv X pins σ H' s2∧RelV x u∧J.IX i H x H'∧tn (i+1) s2.heap∧∀b∈fp,H' b=none) E s1) E s
 done:∀(X:Cx),X.prog=P→X.w=w→X.K=K→X.calm=true→∀(i:Nat) (pins:List (Addr×Obj)) (s:Shared) (σ:St) (H:Hp) (E:Value→Shared→Prop),Inv X pins σ H s→(∀b∈fp,uM X pins H b)→tn i s.heap→J.stop i H →
  wpAny (model P w) X.A (pyNext (.ref it)) (fun r s1=>r=none∧Inv X pins σ H s1) E s
 self:∀(A:Around) (i:Nat) (s:Shared) (Q:Value→Shared→Prop) (E:Value→Shared→Prop),tn i s.heap→Q (.ref it) s→wpAny (model P w) A (pyIter (.ref it)) Q E s
noncomputable abbrev TI:=St→Hp→(It→Hp→Prop)→Prop
noncomputable def V1 (X:Cx) (pins:List (Addr×Obj)) (σ:St) (tg:Expr) (R:It→Hp→Prop) (V2:Value) (s2:Shared):Prop :=
 ∃(it:Addr) (fp:List Addr) (tn:Nat→Heap→Prop) (J:It) (H':Hp),V2=.ref it∧Inv X pins σ H' s2∧Turn X.prog X.w X.K tg J fp it tn∧tn 0 s2.heap∧(∀b∈fp,uM X pins H' b)∧R J H'
noncomputable def PI (X:Cx) (tg iter:Expr) (wi:TI):Prop :=
 ∀(pins:List (Addr×Obj)) (s:Shared) (σ:St) (H:Hp) (R:It→Hp→Prop),Inv X pins σ H s→wi σ H R →
  wpAny (model X.prog X.w) X.A (eval iter X.env) (fun v s1=>wpAny (model X.prog X.w) X.A (pyIter v) (V1 X pins σ tg R) X.xe s1) X.xe s
theorem Kv {M:Model} {A:Around} {E:Value→Shared→Prop} {s:Shared} {tg:Expr} {it:Addr} {u:Value} {o:Obj} {n:String} {vs:Array Value} {Q:Unit→Shared→Prop} (ho:s.heap.get? it=some o) (hc:o.cls=.type n) (hd:o.data=.fields vs)
  (hn:["enumerate","zip","dict_itemiterator","dict_reverseitemiterator","odict_iterator","itertools.zip_longest","itertools.pairwise"].contains n=false) (hQ:Q () s):wpAny M A (letOwnedTupleGo tg (.ref it) u) Q E s:=by
 unfold letOwnedTupleGo
 cases tg<;>first
  | exact wpAny_pure hQ
  | (cases u<;>first
    | exact wpAny_pure hQ
    | (refine wpAny_bind (wpAny_load ho ?_);rw [hc,hd];show wpAny M A (if (["enumerate","zip","dict_itemiterator","dict_reverseitemiterator","odict_iterator","itertools.zip_longest","itertools.pairwise"].contains n&&vs[0]? == some (rawInt _))=true then _ else _) Q E s;rw [if_neg (by intro h;rw [hn,Bool.false_and] at h;cases h)];exact wpAny_pure hQ))
noncomputable def RR (K:ab) (a:Addr):It :=
 ⟨fun i H=>∃xs x,fo K H a xs∧xs[i]?=some x,fun i H x H'=>H'=H∧∀xs,fo K H a xs→xs[i]?=some x,fun i H=>∃xs,fo K H a xs∧xs.length≤i⟩
noncomputable def Sv (lo:Int) (n:Nat):It:=⟨fun i _=>i < n,fun i H x H'=>H'=H∧x=.int (lo+i),fun i _=>n≤i⟩
theorem IY {P:Program} {w:World} {K:ab} {tg:Expr} (a it:Addr):Turn P w K tg (RR K a) [it] it (fun i h=>h.IsListIter it a i) where
 mem:=by simp
 obj:=fun i h st b hb=>by
  have e:b=it:=by simpa using hb
  subst e
  obtain ⟨o,e,c,d⟩:=st
  exact ⟨o,e,fun v z=>by rw [d] at z;cases z⟩
 keep:=fun i h h' st k=>st.at fun o e=>k it (by simp) o e
 item:=by
  intro X hP hw hK hc i pins s σ H E I hf st hg
  subst hP hw hK
  obtain ⟨xs,x,hq,hx⟩:=hg
  obtain ⟨bU,rv,p,hz⟩:=I.list hq
  obtain ⟨u,hu,ru⟩:=rv.get hx
  obtain ⟨f0,f1,f2,f3,f4,f5⟩:=hf it (by simp)
  refine wpAny_pyNext_list_item st p.isList (x:=u) (by simpa using hu) fun h' kU sb=>?_
  have I1:Inv X pins σ H { s with heap:=h' }:=I.turned (t':=s.toks) (fun b o hb e=>(sb.2 b hb).trans e) f0 f1 f3 f4 f5
  obtain ⟨o,e,c,d⟩:=id kU
  exact ⟨u,rfl,Kv (s:={ s with heap:=h' }) e c d (by decide) ⟨x,H,I1,ru,⟨rfl,fun ys hy=>by rw [I.qf hy hq];exact hx⟩,kU,fun b hb=>(hf b hb).1⟩⟩
 done:=by
  intro X hP hw hK hc i pins s σ H E I hf st hg
  subst hP hw hK
  obtain ⟨xs,hq,hx⟩:=hg
  obtain ⟨bU,rv,p,hz⟩:=I.list hq
  obtain ⟨f0,f1,f2,f3,f4,f5⟩:=hf it (by simp)
  have hl:=rv.length
  exact wpAny_pyNext_list_end (I.ok.hd hc) st p.isList (by simp;omega) fun h' eb=>⟨rfl,I.turned (t':=s.toks) (fun b o hb e=>eb b o hb e) f0 f1 f3 f4 f5⟩
 self:=fun _ _ _ _ _ st h=>wpAny_pyIter_listiter st h
theorem F7 {P:Program} {w:World} {K:ab} {tg:Expr} (it:Addr) (lo:Int) (n:Nat):Turn P w K tg (Sv lo n) [it] it (fun i h=>IsRangeIter h it (lo+(i:Nat)*1) ((n:Int) - (i:Nat)) 1) where
 mem:=by simp
 obj:=fun i h st b hb=>by
  have e:b=it:=by simpa using hb
  subst e
  exact ⟨_,st,fun v z=>by
   have z':Data.fields _=Data.cell v:=z
   cases z'⟩
 keep:=fun i h h' st k=>k it (by simp) _ st
 item:=by
  intro X hP hw hK hc i pins s σ H E I hf st hg
  subst hP hw hK
  obtain ⟨f0,f1,f2,f3,f4,f5⟩:=hf it (by simp)
  have W:=Walks.range (prog:=X.prog) (w:=X.w) (I.ok.hd hc) it lo 1 n
  refine W.item i s _ _ hg st fun v h' tk hv kU kk=>?_
  obtain ⟨t,rfl⟩:=hv
  have I1:Inv X pins σ H { s with heap:=h',toks:=tk }:=I.turned (fun b o hb e=>kk b o (by simpa using hb) e) f0 f1 f3 f4 f5
  refine ⟨_,rfl,Kv (s:={ s with heap:=h',toks:=tk }) (n := "range_iterator") kU rfl rfl (by decide) ⟨.int (lo+i),H,I1,⟨t,?_⟩,⟨rfl,rfl⟩,kU,fun b hb=>(hf b hb).1⟩⟩
  rw [Int.mul_one]
 done:=by
  intro X hP hw hK hc i pins s σ H E I hf st hg
  subst hP hw hK
  obtain ⟨f0,f1,f2,f3,f4,f5⟩:=hf it (by simp)
  exact wpAny_pyNext_range_end (I.ok.hd hc) st (by have:n≤i:=hg;omega) fun h' eb=>⟨rfl,I.turned (t':=s.toks) (fun b o hb e=>eb b o hb e) f0 f1 f3 f4 f5⟩
 self:=fun _ _ _ _ _ st h=>wpAny_pyIter_rangeiter st h
end L2
namespace L2
open PySem PySem.Spec PyProof.Rows
section
variable {X:Cx} {tg:Expr}
noncomputable def Sw (K:ab) (tl:TE):TI:=fun σ H R=>tl σ H fun x H1=>∃a,x=.ref a∧(∃xs,fo K H1 a xs)∧R (RR K a) H1
theorem Hq {l:Expr} {tl:TE} (hl:PE X l tl):PI X tg l (Sw X.K tl):=by
 intro pins s σ H R I h
 refine iy (hl pins s σ H _ I h) fun v s1 ⟨x,H1,I1,r1,q1⟩=>?_
 obtain ⟨a,e,⟨xs,hq⟩,q⟩:=q1
 subst e
 cases r1
 obtain ⟨bU,rv,p,hz⟩:=I1.list hq
 refine wpAny_pyIter_list p.isList ?_
 refine ⟨s1.heap.objs.size,[s1.heap.objs.size],_,_,H1,rfl,I1.kept (t':=s1.toks) fun b o e=>Heap.get?_push_of_some _ e,IY a _,⟨_,Heap.get?_push_size _ rfl,rfl,rfl⟩,fun b hb=>?_,q⟩
 have e:b=s1.heap.objs.size:=by simpa using hb
 subst e
 exact I1.FZ (aY _) (I1.gk.fresh (aY _))
theorem D2 {pins:List (Addr×Obj)} {σ:St} {H:Hp} {s:Shared} {R:It→Hp→Prop} {E:Value→Shared→Prop} {lo hi:Int} {t u v:Tok} {tk:Nat} (I:Inv X pins σ H s) (h1:-(2 ^ 62)≤lo) (h2:lo < 2 ^ 62) (h3:-(2 ^ 62)≤hi) (h4:hi < 2 ^ 62)
  (q:R (Sv lo (hi - lo).toNat) H):wpAny (model X.prog X.w) X.A (pyIter (.ref s.heap.objs.size)) (V1 X pins σ tg R) E { s with heap:=s.heap.push { cls:=.type "range",data:=.fields #[.int lo t,.int hi u,.int 1 v] },toks:=tk }:=by
 refine wpAny_pyIter_range (IsRange.new ..) (small_one h1 h2 h3 h4) ?_
 have I1:Inv X pins σ H { s with heap:=s.heap.push { cls:=.type "range",data:=.fields #[.int lo t,.int hi u,.int 1 v] },toks:=tk }:=I.kept fun b o e=>Heap.get?_push_of_some _ e
 refine ⟨(s.heap.push { cls:=.type "range",data:=.fields #[.int lo t,.int hi u,.int 1 v] }).objs.size,[(s.heap.push { cls:=.type "range",data:=.fields #[.int lo t,.int hi u,.int 1 v] }).objs.size],_,_,H,rfl,
  I1.kept (t':=tk) fun b o e=>Heap.get?_push_of_some _ e,F7 _ lo (hi - lo).toNat,?_,fun b hb=>?_,q⟩
 ·have e1:lo+((0:Nat):Int)*1=lo:=by simp
  have e2:(((hi - lo).toNat:Nat):Int) - ((0:Nat):Int)=Builtin.Range.rangeSize lo hi 1:=by rw [rangeSize_one];split<;>omega
  show IsRangeIter _ _ (lo+((0:Nat):Int)*1) ((((hi - lo).toNat:Nat):Int) - ((0:Nat):Int)) 1
  rw [e1,e2]
  exact Heap.get?_push_size _ rfl
 ·have e:b=(s.heap.push { cls:=.type "range",data:=.fields #[.int lo t,.int hi u,.int 1 v] }).objs.size:=by simpa using hb
  subst e
  exact I1.FZ (aY _) (I1.gk.fresh (aY _))
noncomputable def Sx (ta:TA):TI:=fun σ H R=>ta σ H fun vs H1=>∃j:Int,vs=[.int j]∧-(2 ^ 62)≤j∧j < 2 ^ 62∧R (Sv 0 j.toNat) H1
noncomputable def Sy (ta:TA):TI:=fun σ H R=>ta σ H fun vs H1=>∃i j:Int,vs=[.int i,.int j]∧(-(2 ^ 62)≤i∧i < 2 ^ 62∧-(2 ^ 62)≤j∧j < 2 ^ 62)∧R (Sv i (j - i).toNat) H1
theorem IZ {a:Expr} {ta:TA} {p pos:Pos} (hg:Gl X "range") (hm:X.mg "range" = none) (ha:PA X [a] ta) (hs:starEach [a] X.env=[(false,eval a X.env)]:=by rfl):PI X tg (.Call (.Name "range" p) [a] [] pos) (Sx ta):=by
 intro pins s σ H R I h
 refine Call_ (oR I hg hm boot_range (PyProof.Rows.callWith_type1 (iy (ha pos pins s σ H _ I h) fun us s1 ⟨vs,H1,I1,r1,q1⟩=>?_) hs rfl))
 obtain ⟨j,e,q1,q2,q⟩:=q1
 subst e
 cases r1 with
 | cons r rr =>
  cases rr
  obtain ⟨t,rfl⟩:=r
  exact call_range_1 (D2 I1 (by omega) (by omega) q1 q2 (by simpa using q))
theorem I0 {a b:Expr} {ta:TA} {p pos:Pos} (hg:Gl X "range") (hm:X.mg "range" = none) (ha:PA X [a,b] ta) (hs:starEach [a,b] X.env=[(false,eval a X.env),(false,eval b X.env)]:=by rfl) (Nn:starEach [b] X.env=[(false,eval b X.env)]:=by rfl) :
  PI X tg (.Call (.Name "range" p) [a,b] [] pos) (Sy ta):=by
 intro pins s σ H R I h
 refine Call_ (oR I hg hm boot_range (PyProof.Rows.callWith_type1 (iy (ha pos pins s σ H _ I h) fun us s1 ⟨vs,H1,I1,r1,q1⟩=>?_) (by rw [hs,Nn]) (by rw [Nn];rfl)))
 obtain ⟨i,j,e,⟨q1,q2,q3,q4⟩,q⟩:=q1
 subst e
 cases r1 with
 | cons r rr =>
  cases rr with
  | cons r' rr =>
   cases rr
   obtain ⟨t,rfl⟩:=r
   obtain ⟨t',rfl⟩:=r'
   exact call_range_2 (D2 I1 q1 q2 q3 q4 q)
noncomputable def V3 (wi:TI) (g:TG) (tb:TS):TS:=fun D σ H=>wi σ H fun J H1=>∃W:Nat→Nat→St→Hp→Prop,(∃m,W 0 m σ H1)∧∀i m σ H,W i m σ H →
 (J.stop i H∧D.nx σ H)∨(J.go i H∧∃N:St→Hp→Prop,(∀fJ H',N fJ H'→∃m',m' < m∧W (i+1) m' fJ H')∧∀x H',J.IX i H x H'→g x σ H' fun MS H2=>tb { D with nx:=N,ct:=N,bk:=D.nx } MS H2)
noncomputable def yd (fp:List Addr) (h:Heap):List (Addr×Obj):=fp.filterMap fun b=>(h.get? b).map fun o=>(b,o)
theorem sD {fp:List Addr} {h:Heap} {b:Addr} {o:Obj} (hb:b∈fp) (e:h.get? b=some o):(b,o)∈yd fp h:=M8.mpr ⟨b,hb,by rw [e];rfl⟩
theorem I_ {fp:List Addr} {h:Heap} {p:Addr×Obj} (hp:p∈yd fp h):p.1∈fp∧h.get? p.1=some p.2:=by
 obtain ⟨b,hb,e⟩:=M8.mp hp
 cases q:h.get? b with
 | none=>rw [q] at e;cases e
 | some o =>
  rw [q] at e
  have e':(b,o)=p:=bC.inj e
  subst e'
  exact ⟨hb,q⟩
theorem Inv.pinned {pins:List (Addr×Obj)} {σ:St} {H:Hp} {s:Shared} {fp:List Addr} (I:Inv X pins σ H s) (hf:∀b∈fp,uM X pins H b) (ho:∀b∈fp,∃o,s.heap.get? b=some o∧∀v,o.data≠.cell v):Inv X (pins++yd fp s.heap) σ H s :=
 I.Hn fun p hp=>(bG.mp hp).elim (fun z=>I.pin p (dB _ z)) fun z=>by
  obtain ⟨hb,e⟩:=I_ z
  obtain ⟨f0,f1,f2,_⟩:=hf p.1 hb
  obtain ⟨o,e',d⟩:=ho p.1 hb
  rw [e] at e';cases e'
  exact ⟨e,f0,f1,f2,d⟩
theorem Inv.tK {pins pl:List (Addr×Obj)} {σ:St} {H:Hp} {s:Shared} (I:Inv X (pins++pl) σ H s):Inv X pins σ H s:=I.Hn fun p hp=>I.pin p (dB _ (J_ _ hp))
theorem Kw {iter:Expr} {body:List Stmt} {wi:TI} {g:TG} {tb:TS} {pos:Pos} (hp:PassesOwn (model X.prog X.w) X.A X.env X.xe) (hc:X.calm=true) (hi:PI X tg iter wi) (hg:PG X tg g) (hb:wm X body tb)
  (hs:∀x,foldedSetIterable iter X.env x=pure x:=by intro _;rfl):PS X (.For tg iter body [] pos) (V3 wi g tb):=by
 intro pins s σ H D I h
 refine wpAny_For (iy (hi pins s σ H _ I h) fun v s1 h1=>iy h1 fun V2 s2 h2=>?_) hs
 obtain ⟨it,fp,tn,J,H2,e,I2,T,rL,f2,W,⟨m0,w0⟩,turn⟩:=h2
 subst e
 have F8:∀{H':Hp},(∀b∈fp,H' b=none)→∀b∈fp,uM X pins H' b:=fun hn b hb=>⟨hn b hb,(f2 b hb).2⟩
 refine codeAny_forLoop_any (fun n s'=>∃i fJ H',Inv X pins fJ H' s'∧tn i s'.heap∧(∀b∈fp,H' b=none)∧W i n fJ H') ?_ m0 ⟨0,σ,H2,I2,rL,fun b hb=>(f2 b hb).1,w0⟩
 rintro n s3 ⟨i,Ku,H3,I3,oP,Sz,w3⟩
 rcases turn i n Ku H3 w3 with ⟨stop,qn⟩|⟨go,N,hN,step⟩
 ·refine wpAny_passesOwn hp (iy (T.done X rfl rfl rfl hc i pins s3 Ku H3 X.xe I3 (F8 Sz) oP stop) fun r s4 ⟨hr,I4⟩=>?_)
  subst hr
  exact wpAny_execs_nil ⟨Ku,H3,I4,qn⟩
 ·refine wpAny_passesOwn hp (iy (T.item X rfl rfl rfl hc i pins s3 Ku H3 X.xe I3 (F8 Sz) oP go) fun r s4 ⟨u,hr,h4⟩=>?_)
  subst hr
  refine wpAny_passesOwn hp (iy h4 fun _ s5 ⟨x,H5,I5,r5,y5,uN,Zo⟩=>?_)
  have Zp:=I5.pinned (F8 Zo) (T.obj _ _ uN)
  refine wpAny_passesOwn hp (iy (hg _ s5 Ku H5 x u _ Zp r5 (step x H5 y5)) fun _ s6 ⟨SA,H6,I6,q6⟩=>?_)
  refine wpAny_passesOwn hp (iy (hb _ s6 SA H6 _ I6 q6) fun f s7 q7=>?_)
  have again:∀{Kx:St} {H7:Hp},Inv X (pins++yd fp s5.heap) Kx H7 s7→N Kx H7→∃m,m < n∧∃i fJ H',Inv X pins fJ H' s7∧tn i s7.heap∧(∀b∈fp,H' b=none)∧W i m fJ H':=fun {Kx H7} I7 n7=>by
   obtain ⟨m',hm,w7⟩:=hN Kx H7 n7
   refine ⟨m',hm,i+1,Kx,H7,I7.tK,T.keep _ _ _ uN fun b hb o e=>(I7.pin (b,o) (dB _ (dB _ (sD hb e)))).1,fun b hb=>?_,w7⟩
   obtain ⟨o,e,d⟩:=T.obj _ _ uN b hb
   exact (I7.pin (b,o) (dB _ (dB _ (sD hb e)))).2.1
  cases f with
  | next=>obtain ⟨Kx,H7,I7,n7⟩:=q7;exact again I7 n7
  | cont=>obtain ⟨Kx,H7,I7,n7⟩:=q7;exact again I7 n7
  | brk=>obtain ⟨Kx,H7,I7,q7⟩:=q7;exact ⟨Kx,H7,I7.tK,q7⟩
  | ret v=>obtain ⟨x7,Kx,H7,I7,r7,q7⟩:=q7;exact ⟨x7,Kx,H7,I7.tK,r7,q7⟩
end
theorem Ky {K:ab} {a:Addr} {xs:List V} {g:TG} {tb:TS} {D:Ends} {σ:St} {H:Hp} (Pv:Nat→St→Hp→Prop) (h0:Pv 0 σ H) (hl:∀i σ H,i≤xs.length→Pv i σ H→fo K H a xs)
  (hs:∀i x σ H,xs[i]?=some x→Pv i σ H→g x σ H fun MS H2=>tb { D with nx:=Pv (i+1),ct:=Pv (i+1),bk:=D.nx } MS H2) (hd:∀σ H,Pv xs.length σ H→D.nx σ H) :
  ∃W:Nat→Nat→St→Hp→Prop,(∃m,W 0 m σ H)∧∀i m σ H,W i m σ H →
   ((RR K a).stop i H∧D.nx σ H)∨((RR K a).go i H∧∃N:St→Hp→Prop,(∀fJ H',N fJ H'→∃m',m' < m∧W (i+1) m' fJ H')∧∀x H',(RR K a).IX i H x H'→g x σ H' fun MS H2=>tb { D with nx:=N,ct:=N,bk:=D.nx } MS H2):=by
 refine ⟨fun i m σ H=>m=xs.length - i∧i≤xs.length∧Pv i σ H,⟨xs.length,by simp,c8 _,h0⟩,?_⟩
 rintro i m σ H ⟨rfl,hi,p⟩
 have q:=hl i σ H hi p
 by_cases D3:i < xs.length
 ·refine .inr ⟨⟨xs,xs[i],q,by simp [D3]⟩,Pv (i+1),fun fJ H' p'=>⟨xs.length - (i+1),by omega,rfl,D3,p'⟩,fun x H' y=>?_⟩
  obtain ⟨e,y⟩:=y
  subst e
  exact hs i x σ _ (y xs q) p
 ·have e:i=xs.length:=by omega
  subst e
  exact .inl ⟨⟨xs,q,aY _⟩,hd σ H p⟩
end L2
namespace L2
open PySem PySem.Spec PyProof.Rows
noncomputable abbrev R2:=V→V→Hp→VK→Prop
noncomputable def kG (X:Cx) (f:Value→Value→Sem Value) (r:R2):Prop :=
 ∀(pins:List (Addr×Obj)) (s:Shared) (σ:St) (H:Hp) (x y:V) (v u:Value) (Q:VK),Inv X pins σ H s→RelV x v→RelV y u→r x y H Q →
  wpAny (model X.prog X.w) X.A (f v u) (EP X pins σ Q) X.xe s
noncomputable def V4 (X:Cx) (f:Value→Sem Value) (r:V→Hp→VK→Prop):Prop :=
 ∀(pins:List (Addr×Obj)) (s:Shared) (σ:St) (H:Hp) (x:V) (v:Value) (Q:VK),Inv X pins σ H s→RelV x v→r x H Q →
  wpAny (model X.prog X.w) X.A (f v) (EP X pins σ Q) X.xe s
noncomputable def tL (X:Cx) (f:Value) (r:List V→Hp→VK→Prop):Prop :=
 ∀(pins:List (Addr×Obj)) (s:Shared) (σ:St) (H:Hp) (xs:List V) (us:List Value) (Q:VK),Inv X pins σ H s→Vals xs us→r xs H Q →
  wpAny (model X.prog X.w) X.A (call f us) (EP X pins σ Q) X.xe s
noncomputable def SD (r:R2) (ta tb:TE):TE:=fun σ H Q=>ta σ H fun x H1=>tb σ H1 fun y H2=>r x y H2 Q
noncomputable def Zq (r:V→Hp→VK→Prop) (ta:TE):TE:=fun σ H Q=>ta σ H fun x H1=>r x H1 Q
noncomputable def rI (C:Int→Int→Prop) (g:Int→Int→V):R2:=fun x y H Q=>∃i j,x=.int i∧y=.int j∧C i j∧Q (g i j) H
noncomputable def MT (g:Int→Int→V):R2:=fun x y H Q=>∃i j,x=.int i∧y=.int j∧Q (g i j) H
noncomputable def rU (g:Int→V):V→Hp→VK→Prop:=fun x H Q=>∃i,x=.int i∧Q (g i) H
section
variable {X:Cx} {a b c:Expr} {ta tb tc:TE} {pos:Pos}
theorem P9 (ha:PE X a ta) (hb:PE X b tb) {pins:List (Addr×Obj)} {s:Shared} {σ:St} {H:Hp} {R:V→V→Hp→Prop} (I:Inv X pins σ H s)
  (h:ta σ H fun x H1=>tb σ H1 fun y H2=>R x y H2) {Q:Value→Shared→Prop} {f:Value→Value→Sem Value}
  (hf:∀v u s2 x y H2,Inv X pins σ H2 s2→RelV x v→RelV y u→R x y H2→wpAny (model X.prog X.w) X.A (f v u) Q X.xe s2) :
  wpAny (model X.prog X.w) X.A (eval a X.env) (fun v fQ=>wpAny (model X.prog X.w) X.A (eval b X.env) (fun u qe=>wpAny (model X.prog X.w) X.A (f v u) Q X.xe qe) X.xe fQ) X.xe s:=by
 refine iy (ha pins s σ H _ I h) fun v s1 ⟨x,H1,I1,r1,q1⟩=>?_
 refine iy (hb pins s1 σ H1 _ I1 q1) fun u s2 ⟨y,H2,I2,r2,q2⟩=>?_
 exact hf v u s2 x y H2 I2 r1 r2 q2
theorem ye {op:Operator} {r:R2} (ho:kG X (binaryOp op) r) (ha:PE X a ta) (hb:PE X b tb):PE X (.BinOp a op b pos) (SD r ta tb):=by
 intro pins s σ H Q I h
 exact wpAny_BinOp (P9 ha hb I h fun v u s2 x y H2 I2 rx ry q=>ho pins s2 σ H2 x y v u Q I2 rx ry q)
theorem SE {op:UnaryOp} {r:V→Hp→VK→Prop} (ho:V4 X (unaryOp op) r) (ha:PE X a ta):PE X (.UnaryOp op a pos) (Zq r ta):=by
 intro pins s σ H Q I h
 exact UnaryOp_ (iy (ha pins s σ H _ I h) fun v s1 ⟨x,H1,I1,r1,q1⟩=>ho pins s1 σ H1 x v Q I1 r1 q1)
theorem Vb {f:Value→Value→Sem Value} {C:Int→Int→Prop} {g:Int→Int→Int}
  (rule:∀(i j:Int) (t u:Tok) (s:Shared) (Q:Value→Shared→Prop) (E:Value→Shared→Prop),C i j→Q (.int (g i j) s.toks) { s with toks:=s.toks+1 }→wpAny (model X.prog X.w) X.A (f (.int i t) (.int j u)) Q E s) :
  kG X f (rI C fun i j=>.int (g i j)):=by
 intro pins s σ H x y v u Q I rx ry h
 obtain ⟨i,j,rfl,rfl,hc,q⟩:=h
 obtain ⟨t,rfl⟩:=rx
 obtain ⟨t',rfl⟩:=ry
 exact rule i j t t' s _ _ hc ⟨.int (g i j),H,I.tok _,⟨_,rfl⟩,q⟩
theorem Np {f:Value→Value→Sem Value} {g:Int→Int→Int}
  (rule:∀(i j:Int) (t u:Tok) (s:Shared) (Q:Value→Shared→Prop) (E:Value→Shared→Prop),Q (.int (g i j) s.toks) { s with toks:=s.toks+1 }→wpAny (model X.prog X.w) X.A (f (.int i t) (.int j u)) Q E s) :
  kG X f (MT fun i j=>.int (g i j)):=by
 intro pins s σ H x y v u Q I rx ry h
 obtain ⟨i,j,rfl,rfl,q⟩:=h
 obtain ⟨t,rfl⟩:=rx
 obtain ⟨t',rfl⟩:=ry
 exact rule i j t t' s _ _ ⟨.int (g i j),H,I.tok _,⟨_,rfl⟩,q⟩
theorem Nq {f:Value→Value→Sem Value} {g:Int→Int→Bool}
  (rule:∀(i j:Int) (t u:Tok) (s:Shared) (Q:Value→Shared→Prop) (E:Value→Shared→Prop),Q (.bool (g i j)) s→wpAny (model X.prog X.w) X.A (f (.int i t) (.int j u)) Q E s) :
  kG X f (MT fun i j=>.bl (g i j)):=by
 intro pins s σ H x y v u Q I rx ry h
 obtain ⟨i,j,rfl,rfl,q⟩:=h
 obtain ⟨t,rfl⟩:=rx
 obtain ⟨t',rfl⟩:=ry
 exact rule i j t t' s _ _ ⟨.bl (g i j),H,I,rfl,q⟩
noncomputable def V5 (i j:Int):Prop:=0 < j∧j < 1073741824
noncomputable def V6 (i j:Int):Prop:=0≤j∧j≤1000000∧i.natAbs < 2 ^ 64
noncomputable def P_ (i j:Int):Prop:=(-(2 ^ 64) < i∧i < 2 ^ 64)∨(-(2 ^ 64) < j∧j < 2 ^ 64)
theorem P_.ok {i j:Int} (h:P_ i j):IntMulOk i j:=by
 rcases h with ⟨h1,h2⟩|⟨h1,h2⟩
 ·exact .of_left (intBits_le_64 h1 h2)
 ·exact .of_right (intBits_le_64 h1 h2)
theorem Kz:kG X (binaryOp .Add) (MT fun i j=>.int (i+j)):=Np fun _ _ _ _ _ _ _ q=>add_int q
theorem Qa:kG X (binaryOp .Sub) (MT fun i j=>.int (i - j)):=Np fun _ _ _ _ _ _ _ q=>sub_int q
theorem Qb:kG X (binaryOp .Mult) (rI P_ fun i j=>.int (i*j)):=Vb fun _ _ _ _ _ _ _ hc q=>mul_int q hc.ok
theorem Nr:kG X (binaryOp .FloorDiv) (rI V5 fun i j=>.int (i / j)):=Vb fun i j _ _ _ _ _ hc q=>by
 have h1:(0:Int) < j:=hc.1
 have h2:j < 1073741824:=hc.2
 exact floordiv_int (by omega) (by rw [Int.fdiv_eq_ediv_of_nonneg i (by omega)];exact q) (.inl (PyProof.noPylong_small (by omega)))
theorem Qc:kG X (binaryOp .Mod) (rI (fun _ j=>0 < j) fun i j=>.int (i % j)):=Vb fun i j _ _ _ _ _ hc q=>by
 have h1:(0:Int) < j:=hc
 exact mod_int' (by omega) (by rw [Int.fmod_eq_emod_of_nonneg i (by omega)];exact q)
theorem Qd:kG X (binaryOp .LShift) (rI V6 fun i j=>.int (i*2 ^ j.toNat)):=Vb fun _ _ _ _ _ _ _ hc q=>lshift_int_small hc.1 hc.2.1 hc.2.2 q
theorem Qe:kG X (binaryOp .BitAnd) (MT fun i j=>.int (Builtin.bitAnd i j)):=Np fun _ _ _ _ _ _ _ q=>and_int q
theorem SF:kG X (binaryOp .BitOr) (MT fun i j=>.int (Builtin.bitOr i j)):=Np fun _ _ _ _ _ _ _ q=>or_int q
theorem Zr {f:Value→Sem Value} {g:Int→Int}
  (rule:∀(i:Int) (t:Tok) (s:Shared) (Q:Value→Shared→Prop) (E:Value→Shared→Prop),Q (.int (g i) s.toks) { s with toks:=s.toks+1 }→wpAny (model X.prog X.w) X.A (f (.int i t)) Q E s) :
  V4 X f (rU fun i=>.int (g i)):=by
 intro pins s σ H x v Q I rx h
 obtain ⟨i,rfl,q⟩:=h
 obtain ⟨t,rfl⟩:=rx
 exact rule i t s _ _ ⟨.int (g i),H,I.tok _,⟨_,rfl⟩,q⟩
theorem Qg:V4 X (unaryOp .USub) (rU fun i=>.int (-i)):=Zr fun _ _ _ _ _ q=>neg_int q
end
noncomputable def Qh:V→V→Bool
 | .gH,.gH=>true|.gH,.int _=>true|.int _,.gH=>true|.gH,.bl _=>true|.bl _,.gH=>true|.gH,.str _=>true|.str _,.gH=>true
 | .int _,.int _=>true|.bl _,.bl _=>true|.str _,.str _=>true|.FU _,.FU _=>true
 | .int _,.str _=>true|.str _,.int _=>true|.bl _,.str _=>true|.str _,.bl _=>true
 | _,_=>false
noncomputable def Zs:R2:=fun x y H Q=>Qh x y=true∧Q (.bl (decide (x=y))) H
noncomputable def Zt:R2:=fun x y H Q=>Qh x y=true∧Q (.bl (!decide (x=y))) H
theorem Hr {i j:Int}:decide (V.int i=V.int j)=(i == j):=by
 rw [eh]
 simp
theorem KA {i j:Bool}:decide (V.bl i=V.bl j)=(i == j):=by
 rw [eh]
 simp
theorem Hs {i j:Str}:decide (V.str i=V.str j)=(i == j):=by
 rw [eh]
 simp
theorem Ht {i j:Array UInt8}:decide (V.FU i=V.FU j)=(i.toList == j.toList):=by
 rw [eh]
 cases i
 cases j
 simp
section
variable {X:Cx} {a b c:Expr} {ta tb tc:TE} {pos:Pos}
theorem dJ {pins:List (Addr×Obj)} {σ:St} {H:Hp} {s:Shared} {Q:VK} {k k':Bool} (I:Inv X pins σ H s) (q:Q (.bl k) H) (e:k=k'):EP X pins σ Q (.bool k') s:=by
 subst e
 exact ⟨.bl k,H,I,rfl,q⟩
theorem SG:kG X (compareOp .Eq) Zs:=by
 intro pins s σ H x y v u Q I rx ry h
 obtain ⟨hs,q⟩:=h
 cases x with
 | gH =>
  cases rx
  cases y with
  | gH=>cases ry;exact PySem.EqNone.eq_none_none (dJ I q (by simp))
  | bl j=>cases ry;exact PySem.EqNone.eq_none_bool (dJ I q (by simp))
  | int j=>obtain ⟨t',rfl⟩:=ry;exact PySem.EqNone.eq_none_int (dJ I q (by simp))
  | str j=>obtain ⟨t',rfl⟩:=ry;exact PySem.EqNone.eq_none_str (dJ I q (by simp))
  | _=>exact absurd (show false=true from hs) aR
 | bl i =>
  cases rx
  cases y with
  | gH=>cases ry;exact PySem.EqNone.eq_bool_none (dJ I q (by simp))
  | bl j=>cases ry;exact eq_bool (dJ I q KA)
  | str j=>obtain ⟨t',rfl⟩:=ry;exact PySem.EqMixed.eq_bool_str (dJ I q (by simp))
  | _=>exact absurd (show false=true from hs) aR
 | int i =>
  obtain ⟨t,rfl⟩:=rx
  cases y with
  | gH=>cases ry;exact PySem.EqNone.eq_int_none (dJ I q (by simp))
  | int j=>obtain ⟨t',rfl⟩:=ry;exact eq_int (dJ I q Hr)
  | str j=>obtain ⟨t',rfl⟩:=ry;exact PySem.EqMixed.eq_int_str (dJ I q (by simp))
  | _=>exact absurd (show false=true from hs) aR
 | str i =>
  obtain ⟨t,rfl⟩:=rx
  cases y with
  | gH=>cases ry;exact PySem.EqNone.eq_str_none (dJ I q (by simp))
  | bl j=>cases ry;exact PySem.EqMixed.eq_str_bool (dJ I q (by simp))
  | int j=>obtain ⟨t',rfl⟩:=ry;exact PySem.EqMixed.eq_str_int (dJ I q (by simp))
  | str j=>obtain ⟨t',rfl⟩:=ry;exact eq_str (dJ I q Hs)
  | _=>exact absurd (show false=true from hs) aR
 | FU i =>
  obtain ⟨t,rfl⟩:=rx
  cases y with
  | FU j=>obtain ⟨t',rfl⟩:=ry;exact PySem.W.eq_bytes (dJ I q Ht)
  | _=>exact absurd (show false=true from hs) aR
 | _=>cases y<;>exact absurd (show false=true from hs) aR
theorem SH:kG X (compareOp .NotEq) Zt:=by
 intro pins s σ H x y v u Q I rx ry h
 obtain ⟨hs,q⟩:=h
 cases x with
 | gH =>
  cases rx
  cases y with
  | gH=>cases ry;exact PySem.EqNone.ne_none_none (dJ I q (by simp))
  | bl j=>cases ry;exact PySem.EqNone.ne_none_bool (dJ I q (by simp))
  | int j=>obtain ⟨t',rfl⟩:=ry;exact PySem.EqNone.ne_none_int (dJ I q (by simp))
  | str j=>obtain ⟨t',rfl⟩:=ry;exact PySem.EqNone.ne_none_str (dJ I q (by simp))
  | _=>exact absurd (show false=true from hs) aR
 | bl i =>
  cases rx
  cases y with
  | gH=>cases ry;exact PySem.EqNone.ne_bool_none (dJ I q (by simp))
  | bl j=>cases ry;exact ne_bool (dJ I q (congrArg not KA))
  | str j=>obtain ⟨t',rfl⟩:=ry;exact PySem.EqMixed.ne_bool_str (dJ I q (by simp))
  | _=>exact absurd (show false=true from hs) aR
 | int i =>
  obtain ⟨t,rfl⟩:=rx
  cases y with
  | gH=>cases ry;exact PySem.EqNone.ne_int_none (dJ I q (by simp))
  | int j=>obtain ⟨t',rfl⟩:=ry;exact ne_int (dJ I q (congrArg not Hr))
  | str j=>obtain ⟨t',rfl⟩:=ry;exact PySem.EqMixed.ne_int_str (dJ I q (by simp))
  | _=>exact absurd (show false=true from hs) aR
 | str i =>
  obtain ⟨t,rfl⟩:=rx
  cases y with
  | gH=>cases ry;exact PySem.EqNone.ne_str_none (dJ I q (by simp))
  | bl j=>cases ry;exact PySem.EqMixed.ne_str_bool (dJ I q (by simp))
  | int j=>obtain ⟨t',rfl⟩:=ry;exact PySem.EqMixed.ne_str_int (dJ I q (by simp))
  | str j=>obtain ⟨t',rfl⟩:=ry;exact ne_str (dJ I q (congrArg not Hs))
  | _=>exact absurd (show false=true from hs) aR
 | FU i =>
  obtain ⟨t,rfl⟩:=rx
  cases y with
  | FU j=>obtain ⟨t',rfl⟩:=ry;exact PySem.W.ne_bytes (dJ I q (congrArg not Ht))
  | _=>exact absurd (show false=true from hs) aR
 | _=>cases y<;>exact absurd (show false=true from hs) aR
theorem OR:kG X (compareOp .Lt) (MT fun i j=>.bl (decide (i < j))):=Nq fun _ _ _ _ _ _ _ q=>lt_int q
theorem SI:kG X (compareOp .LtE) (MT fun i j=>.bl (decide (i≤j))):=Nq fun _ _ _ _ _ _ _ q=>le_int q
theorem SJ:kG X (compareOp .Gt) (MT fun i j=>.bl (decide (j < i))):=Nq fun _ _ _ _ _ _ _ q=>gt_int q
theorem SK:kG X (compareOp .GtE) (MT fun i j=>.bl (decide (j≤i))):=Nq fun _ _ _ _ _ _ _ q=>ge_int q
theorem Nt {op:CmpOp} {r:R2} (ho:kG X (compareOp op) r) (ha:PE X a ta) (hb:PE X b tb) (hm:behindInMarks op b=false):PE X (.Compare a [op] [b] pos) (SD r ta tb):=by
 intro pins s σ H Q I h
 exact wpAny_Compare1 (P9 ha hb I h fun v u s2 x y H2 I2 rx ry q=>ho pins s2 σ H2 x y v u Q I2 rx ry q) hm
noncomputable def SM (t:TE):TT:=fun σ H Q=>t σ H fun x H'=>∃k,x=.bl k∧Q k H'
theorem Hu {op:CmpOp} {r:R2} (ho:kG X (compareOp op) r) (ha:PE X a ta) (hb:PE X b tb) (hm:behindInMarks op b=false):PT X (.Compare a [op] [b] pos) (SM (SD r ta tb)):=by
 intro pins s σ H Q I h
 refine wpAny_isTrue_Compare1 (iy (ha pins s σ H _ I h) fun v s1 ⟨x,H1,I1,r1,q1⟩=>iy (hb pins s1 σ H1 _ I1 q1) fun u s2 ⟨y,H2,I2,r2,q2⟩ =>
  iy (ho pins s2 σ H2 x y v u _ I2 r1 r2 q2) fun c s3 ⟨z,H3,I3,r3,k,e,q3⟩=>?_) hm
 subst e
 cases r3
 exact wpAny_truthy_bool ⟨H3,I3,q3⟩
theorem Cq:(sizeLine:Nat) < 2 ^ 63:=by rw [sizeLine_eq];decide
theorem vals1 {x:V} {us:List Value} (r:Vals [x] us):∃u,us=[u]∧RelV x u:=by
 cases r with
 | cons r1 r2=>cases r2;exact ⟨_,rfl,r1⟩
end
end L2
namespace L2
open PySem PySem.Spec PyProof.Rows
structure Ja (h:Heap) (x dx C:Addr) (mA:Str→Option Value):Prop where
 obj:h.get? x=some (gd C dx)
 ns:h.Ns1 dx mA
 ne:dx≠x
theorem Jb {h:Heap} {dx:Addr} {mA:Str→Option Value} (n:h.Ns1 dx mA):∃od,h.get? dx=some od∧∀name,Bq name od=some (mA name):=by
 obtain ⟨o,es,ep,ho,hd,hk,_,hm⟩:=n
 refine ⟨o,ho,fun name=>?_⟩
 have e:=hm name
 unfold nsFind findBy at e
 rw [←Array.find?_toList] at e
 unfold Bq
 rw [hd]
 dsimp only
 split
 ·rename_i y q
  rw [q] at e
  exact congrArg some e
 ·rename_i q
  rw [q] at e
  have a:es.toList.any (·.refKey)=false:=by
   rw [List.any_eq_false]
   intro y hy
   obtain ⟨z,t,V7⟩:=hk y (Array.mem_toList_iff.mp hy)
   simp [DictEntry.refKey,V7]
  have a':¬es.toList.any (·.refKey)=true:=by rw [a];exact aR
  rw [if_neg a']
  exact congrArg some e
theorem Ja.look {h:Heap} {x dx C:Addr} {mA:Str→Option Value} (I:Ja h x dx C mA):∃od,PySem.W.InstAt h x (gd C dx) C (some od)∧∀name,Bq name od=some (mA name) :=
 let ⟨od,ho,hl⟩:=Jb I.ns
 ⟨od,⟨I.obj,rfl,rfl,ho⟩,hl⟩
section
variable {prog:Program} {w:World} {A:Around} {E:Value→Shared→Prop} {s:Shared} {K:ab} {x dx C f:Addr} {mA:Str→Option Value} {name:Str} {v:Value}
theorem get_map {expr:Bool} {Q:Value→Shared→Prop} (X:K.In s.heap) (I:Ja s.heap x dx C mA) (hg:pK K C name=true) (hh:ou K C=true)
  (ha:cK K (.ref C) name=some none) (hv:mA name=some v) (Vc:MK v=true) (h:Q v { s with toks:=s.toks+1 }) :
  wpAny (model prog w) A (getAttr (.ref x) name expr) Q E s:=by
 obtain ⟨od,J,hl⟩:=I.look
 exact PySem.W.get_value X J (PySem.W.plainGet_of hg).1 (PySem.W.findObj_own hh ha rfl (by rw [hl,hv])) Vc h
theorem Nu {ns:List Str} {Q:Unit→Shared→Prop} (X:K.In s.heap) (I:Ja s.heap x dx C mA)
  (hs:cK K (.ref C) "__setattr__" = some (some (.builtin "object.__setattr__"))) (hp:vM K C=true) (ht:z6 K C name=some none) (hh:ou K C=true)
  (hw:PySem.Within mA ns) (hsz:ns.length≤sizeLine)
  (h:∀h',Ja h' x dx C (fun y=>if y=name then some v else mA y)→Heap.SameBut dx s.heap h'→Q () { s with heap:=h',toks:=s.toks+2 }) :
  wpAny (model prog w) A (setAttr (.ref x) name v) Q E s:=by
 obtain ⟨od,J,hl⟩:=I.look
 refine PySem.W.set_plain X J hs (PySem.W.osa_open (s:={ s with toks:=s.toks+1 }) (r:=none) X J hp ht fun b=>?_)
 obtain ⟨cd,hc,VO⟩:=PySem.W.any_some hh
 have hx:s.heap.get? x=some ⟨.ref C,some dx,.plain,#[]⟩:=I.obj
 refine wpAny_bind (wpAny_pure (wpAny_bind (wpAny_bind (wpAny_loadPart hx (wpAny_bind (PySem.W.Looks.here (s:={ s with toks:=s.toks+1 }) (PySem.W.looks_clsIn X hc) ?_))))))
 rw [VO]
 refine wpAny_pure (a:=some dx) (wpAny_bind (wpAny_pure (wpAny_bind ?_)))
 refine wpAny_nsSet1 (s:={ s with toks:=s.toks+1 }) I.ns fun h' Yc Nn=>?_
 obtain ⟨oD,esD,epD,Zu,Zv,Zw⟩:=Yc.count (PySem.Within.cons name v hw)
 refine wpAny_bind (wpAny_lookBehind Zu (by rw [Zv];exact pastItsLine_dict (aP Zw (by rw [az];omega))) ?_)
 exact wpAny_pure (h _ ⟨(Nn.2 _ (Ne.symm I.ne)).trans I.obj,Yc,I.ne⟩ Nn)
theorem KC {R:Result→Shared→Prop} {vs:List Value} {kw:List (Str×Value)} (X:K.In s.heap) (hm:p9 K C=true)
  (hi:cK K (.ref C) "__init__" = some (some (.ref f))) (hf:PySem.W.typeIn K (.ref f)=some (.type "function"))
  (h:codeAny (model prog w) (A.under (.builtin "type.__call__" ⟨.ref C::vs,kw⟩)) (.call (.ref f) ⟨.ref (s.heap.objs.size+1)::vs,kw⟩) (PySem.W.InitBack (s.heap.objs.size+1) R)
   { s with heap:=(s.heap.push dS).push (gd C s.heap.objs.size) }) :
  codeAny (model prog w) A (.call (.ref C) ⟨vs,kw⟩) R s:=by
 obtain ⟨hh,g,d,t,os⟩:=s
 exact PySem.W.make_core (PySem.W.makes_of X hm) (PySem.W.looks_findIn X hi) (fun self=>PySem.W.bind_fn X self hf) (.inl rfl) h
end
noncomputable def cW (f:Str) (v:V):List (Str×V)→List (Str×V)
 | []=>[(f,v)]
 | (g,x)::r=>if g=f then (g,v)::r else (g,x)::cW f v r
theorem aU (f g:Str) (v:V):∀fs:List (Str×V),(cW f v fs).lookup g=if g=f then some v else fs.lookup g
 | []=>by
  show je g [(f,v)]=_
  by_cases h:g=f
  ·have hb:(g == f)=true:=beq_iff_eq.mpr h
   simp only [je,hb,if_pos h]
  ·have hb:(g == f)=false:=beq_eq_false_iff_ne.mpr h
   simp only [je,hb,if_neg h]
 | (k,x)::r=>by
  have ih:=aU f g v r
  rw [show cW f v ((k,x)::r)=(if k=f then (k,v)::r else (k,x)::cW f v r) from rfl]
  by_cases hk:k=f
  ·rw [if_pos hk]
   by_cases h:g=k
   ·have hb:(g == k)=true:=beq_iff_eq.mpr h
    simp only [je,hb,if_pos (h.trans hk)]
   ·have hb:(g == k)=false:=beq_eq_false_iff_ne.mpr h
    simp only [je,hb,if_neg (fun e:g=f=>h (e.trans hk.symm))]
  ·rw [if_neg hk]
   by_cases h:g=k
   ·have hb:(g == k)=true:=beq_iff_eq.mpr h
    simp only [je,hb,if_neg (fun e:g=f=>hk (h.symm.trans e))]
   ·have hb:(g == k)=false:=beq_eq_false_iff_ne.mpr h
    simp only [je,hb]
    exact ih
theorem uO (f:Str) (v:V):∀fs:List (Str×V),f∈(cW f v fs).map (·.1)∧∀g,g∈fs.map (·.1)→g∈(cW f v fs).map (·.1)
 | []=>⟨by simp [cW],fun g h=>by simp at h⟩
 | (k,x)::r=>by
  obtain ⟨i1,i2⟩:=uO f v r
  rw [show cW f v ((k,x)::r)=(if k=f then (k,v)::r else (k,x)::cW f v r) from rfl]
  by_cases hk:k=f
  ·rw [if_pos hk]
   subst hk
   exact ⟨by simp,fun g h=>by simpa using h⟩
  ·rw [if_neg hk]
   refine ⟨?_,fun g h=>?_⟩
   ·rw [aO]
    exact bu _ i1
   ·rw [aO] at h ⊢
    rcases aG.mp h with e|e
    ·exact aG.mpr (.inl e)
    ·exact bu _ (i2 g e)
theorem iB (f:Str) (v:V):∀fs:List (Str×V),(cW f v fs).length≤fs.length+1
 | []=>by simp [cW]
 | (k,x)::r=>by
  have ih:=iB f v r
  rw [show cW f v ((k,x)::r)=(if k=f then (k,v)::r else (k,x)::cW f v r) from rfl]
  by_cases hk:k=f
  ·rw [if_pos hk,az,az];omega
  ·rw [if_neg hk,az,az];omega
theorem Cg.some_of {v:V} {o:Option Value} (r:Cg (some v) o):∃u,o=some u∧RelV v u:=by
 cases o with
 | none=>exact (show False from r).elim
 | some u=>exact ⟨u,rfl,r⟩
theorem Jc {v:V} {u:Value} (r:RelV v u):MK u=true:=by
 cases v with
 | gH=>cases (show u=Value.none from r);rfl
 | bl b=>cases (show u=Value.bool b from r);rfl
 | int i=>obtain ⟨t,e⟩:=(show ∃t,u=Value.int i t from r);cases e;rfl
 | str x=>obtain ⟨t,e⟩:=(show ∃t,u=Value.str x t from r);cases e;rfl
 | FU b=>obtain ⟨t,e⟩:=(show ∃t,u=Value.bytes b t from r);cases e;rfl
 | U3 b=>obtain ⟨t,e⟩:=(show ∃t,u=Value.float b t from r);cases e;rfl
 | ref a=>cases (show u=Value.ref a from r);rfl
 | ty n=>cases (show u=Value.type n from r);rfl
section
variable {P:Program} {w:World} {H H':Hp} {h h':Heap} {a C dx:Addr} {fs Zg:List (Str×V)}
theorem Hv (gk:tJ P w H h) (e:H a=some (.ins C dx fs)):∃mA,Ja h a dx C mA∧(∀f,Cg (fs.lookup f) (mA f))∧PySem.Within mA (fs.map (·.1))∧fs.length≤1000∧H dx=some (.own a):=by
 obtain ⟨d,z,ne,ob,mA,n,r,q⟩:=(show jA P w H h a (.ins C dx fs) from gk a _ e)
 exact ⟨mA,⟨ob,n,ne⟩,r,q,z,d⟩
end
structure MU (K:ab) (C:Addr):Prop where
 pg:pK K C Str.empty=true
 hd:ou K C=true
 po:vM K C=true
 sa:cK K (.ref C) "__setattr__" = some (some (.builtin "object.__setattr__"))
theorem MU.get {K:ab} {C:Addr} (c:MU K C) (f:Str):pK K C f=true:=c.pg
noncomputable def jv (K:ab) (C:Addr) (f:Str):Prop:=cK K (.ref C) f=some none
theorem jv.SN {K:ab} {C:Addr} {f:Str} (n:jv K C f):z6 K C f=some none:=by
 unfold z6
 rw [show cK K (.ref C) f=some none from n]
 rfl
section
variable {X:Cx} {pins:List (Addr×Obj)} {σ:St} {H:Hp} {s:Shared} {a C dx:Addr} {fs:List (Str×V)} {f:Str} {v:V} {A:Around} {E:Value→Shared→Prop}
theorem F9 {b:Bool} {Q:Value→Shared→Prop} (I:Inv X pins σ H s) (e:H a=some (.ins C dx fs)) (c:MU X.K C) (n:jv X.K C f) (l:fs.lookup f=some v)
  (h:∀u s',Inv X pins σ H s'→RelV v u→Q u s'):wpAny (model X.prog X.w) A (getAttr (.ref a) f b) Q E s:=by
 obtain ⟨mA,O,r,_,_,_⟩:=Hv I.gk e
 obtain ⟨u,hu,ru⟩:=Cg.some_of (v:=v) (o:=mA f) (by rw [←l];exact r f)
 exact get_map I.Kj O (c.get f) c.hd n hu (Jc ru) (h u _ (I.tok _) ru)
theorem F_ {y:V} {u:Value} {Q:Unit→Shared→Prop} (I:Inv X pins σ H s) (e:H a=some (.ins C dx fs)) (c:MU X.K C) (n:jv X.K C f) (hl:fs.length < 1000) (ry:RelV y u)
  (h:∀s',Inv X pins σ (upd H a (.ins C dx (cW f y fs))) s'→Q () s'):wpAny (model X.prog X.w) A (setAttr (.ref a) f u) Q E s:=by
 obtain ⟨mA,O,r,wi,_,ho⟩:=Hv I.gk e
 have hz:(fs.map (·.1)).length≤sizeLine:=by rw [ah,sizeLine_eq];omega
 refine Nu I.Kj O c.sa c.po n.SN c.hd wi hz fun h' O' sb=>h _ ?_
 have hd:∃o,h'.get? dx=some o:=let ⟨o,_,_,e',_⟩:=O'.ns;⟨o,e'⟩
 refine I.write (x:=a) (e:=dx) (by rw [e];exact True.intro) (.inr ho) (fun b q hb z=>(sb.2 b hb).trans z) hd ?_
 refine ⟨by rw [aN O.ne];exact ho,?_,O.ne,O'.obj,_,O'.ns,fun g=>?_,fun g hg=>?_⟩
 ·have:=iB f y fs;omega
 ·show Cg ((cW f y fs).lookup g) (if g=f then some u else mA g)
  rw [aU]
  by_cases q:g=f
  ·rw [if_pos q,if_pos q];exact ry
  ·rw [if_neg q,if_neg q];exact r g
 ·by_cases q:g=f
  ·rw [q];exact (uO f y fs).1
  ·refine (uO f y fs).2 g (wi g fun z=>hg ?_)
   show (if g=f then some u else mA g)=none
   rw [if_neg q];exact z
theorem Inv.made (I:Inv X pins σ H s):Inv X pins σ (upd (upd H s.heap.objs.size (.own (s.heap.objs.size+1))) (s.heap.objs.size+1) (.ins C s.heap.objs.size []))
  { s with heap:=(s.heap.push dS).push (gd C s.heap.objs.size) }:=by
 have e1:(s.heap.push dS).get? s.heap.objs.size=some dS:=Heap.get?_push_size s.heap rfl
 have e2:((s.heap.push dS).push (gd C s.heap.objs.size)).get? (s.heap.objs.size+1)=some (gd C s.heap.objs.size):=by
  have:=Heap.get?_push_size (s.heap.push dS) (o:=gd C s.heap.objs.size) rfl
  rwa [Heap.size_push] at this
 have e3:(s.heap.push dS).Ns s.heap.objs.size (fun _=>none):=⟨dS,#[],_,e1,rfl,(fun e he=>absurd he (by simp)),fun _=>rfl⟩
 have I1:=I.laid (a:=s.heap.objs.size) (o:=.own (s.heap.objs.size+1)) (h':=s.heap.push dS) (t':=s.toks) (fun b u q=>Heap.get?_push_of_some _ q) (aY _) ⟨_,e1⟩
 refine I1.laid (a:=s.heap.objs.size+1) (o:=.ins C s.heap.objs.size []) (t':=s.toks) (fun b u q=>Heap.get?_push_of_some _ q) (z7 (Heap.size_push _ _)) ?_
 have ne:s.heap.objs.size≠s.heap.objs.size+1:=cF (q0 _)
 refine ⟨by rw [aN ne,aL],c8 _,ne,e2,fun _=>none,(Heap.Ns1.of_empty e3).at fun o q=>Heap.get?_push_of_some _ q,fun _=>True.intro,fun y hy=>absurd rfl hy⟩
theorem Nv {prog:Program} {w:World} {env:Env} {e:Expr} {f:Str} {pos:Pos} {s:Shared} {Q:Value→Shared→Prop} (hb:attributeBase e f env (eval e env)=eval e env)
  (h:wpAny (model prog w) A (eval e env) (fun o fQ=>wpAny (model prog w) A (getAttr o f true) Q E fQ) E s):wpAny (model prog w) A (eval (.Attribute e f pos) env) Q E s :=
 Attribute_any_ h (by rw [arm_eval_Attribute,hb])
end
noncomputable def V8 (K:ab) (ta:TE) (f:Str):TE:=fun σ H Q=>ta σ H fun x H1=>∃a C dx fs v,x=.ref a∧H1 a=some (.ins C dx fs)∧MU K C∧jv K C f∧fs.lookup f=some v∧Q v H1
noncomputable def Ny (K:ab) (ta tv:TE) (f:Str):TS:=fun D σ H=>tv σ H fun y H1=>ta σ H1 fun x H2=>∃a C dx fs,x=.ref a∧H2 a=some (.ins C dx fs)∧MU K C∧jv K C f∧fs.length < 1000 ∧
 D.nx σ (upd H2 a (.ins C dx (cW f y fs)))
section
variable {X:Cx} {o e value:Expr} {f:Str} {pos pos' uP:Pos} {ta tv:TE}
theorem kg (he:PE X e ta) (hb:attributeBase e f X.env (eval e X.env)=eval e X.env):PE X (.Attribute e f pos) (V8 X.K ta f):=by
 intro pins s σ H Q I h
 refine Nv hb (iy (he pins s σ H _ I h) fun u s1 ⟨x,H1,I1,rx,a,C,dx,fs,v,ex,ea,c,n,l,q⟩=>?_)
 subst ex
 obtain rfl:u=Value.ref a:=rx
 exact F9 I1 ea c n l fun u' s2 I2 ru=>⟨v,H1,I2,ru,q⟩
theorem eR (ha:PE X o ta) (hv:PE X value tv) (hs:swapsWith value (some (.Attribute o f pos')) pos.line X.env=pure false):PS X (.Assign [.Attribute o f pos'] value pos) (Ny X.K ta tv f):=by
 intro pins s σ H D I h
 refine plainObj_wpAny_Assign_Attribute (iy (hv pins s σ H _ I h) fun u s1 ⟨y,H1,I1,ry,q⟩=>iy (ha pins s1 σ H1 _ I1 q) fun ov s2 ⟨x,H2,I2,rx,a,C,dx,fs,ex,ea,c,n,l,q2⟩=>?_) hs
 subst ex
 obtain rfl:ov=Value.ref a:=rx
 exact F_ I2 ea c n l ry fun s3 I3=>⟨σ,_,I3,q2⟩
end
section
variable {X:Cx} {pins:List (Addr×Obj)} {σ:St} {H:Hp} {s:Shared} {A:Around} {E:Value→Shared→Prop} {Q:Value→Shared→Prop} {c:Value} {b:Bool}
end
end L2
namespace L2
open PySem PySem.Spec PyProof.Rows
structure kb (k:Nat) (A:Around):Prop where
 hd:A.handled=none
 dp:A.depth+3*k+5 < recursionLimit
 un:A.units+16*k+200 < cLine
theorem kb.mono {j k:Nat} {A:Around} (r:kb k A) (h:j≤k):kb j A:=⟨r.hd,by have:=r.dp;omega,by have:=r.un;omega⟩
theorem kb.deeper {k:Nat} {A:Around} (r:kb (k+1) A) (env:Env):kb k (A.deeper env) :=
 ⟨r.hd,by have:=r.dp;show A.depth+1+3*k+5 < _;omega,by have:=r.un;show A.units+3+16*k+200 < _;omega⟩
theorem kb.in1 {k:Nat} {A:Around} (r:kb (k+1) A):kb k A.in1 :=
 ⟨r.hd,by have:=r.dp;show A.depth+3*k+5 < _;omega,by have:=r.un;show A.units+1+16*k+200 < _;omega⟩
theorem Ga {A:Around} {C:Addr} {us:List Value} {kw:List (Str×Value)}:(A.under (.builtin "type.__call__" ⟨.ref C::us,kw⟩)).depth=A.depth+1:=by
 first|rfl|simp [Around.under,Code.weight,Code.isCreation,Code.isGuard,Code.isCaller,Code.frames,Code.isFrame,guardIds]
theorem Gb {A:Around} {C:Addr} {us:List Value} {kw:List (Str×Value)}:(A.under (.builtin "type.__call__" ⟨.ref C::us,kw⟩)).units=A.units+1:=by
 first|rfl|simp [Around.under,Code.cUnits,Code.frames,Code.isFrame]
theorem kb.make {k:Nat} {A:Around} (r:kb (k+1) A) (C:Addr) (us:List Value) (kw:List (Str×Value)):kb k (A.under (.builtin "type.__call__" ⟨.ref C::us,kw⟩)) :=
 ⟨r.hd,by have:=r.dp;rw [Ga];omega,by have:=r.un;rw [Gb];omega⟩
theorem kb.depth {k:Nat} {A:Around} (r:kb k A):A.depth < recursionLimit:=by have:=r.dp;omega
theorem kb.units {k:Nat} {A:Around} (r:kb k A):A.units+64 < cLine:=by have:=r.un;omega
noncomputable def Jd:TA:=fun _ H Q=>Q [] H
noncomputable def D4 (ta:TE) (tr:TA):TA:=fun σ H Q=>ta σ H fun x H1=>tr σ H1 fun xs H2=>Q (x::xs) H2
section
variable {X:Cx} {e:Expr} {es:List Expr} {te:TE} {t:TA} {pos:Pos}
theorem cw:PA X [] Jd:=fun _ _ _ _ H Q I h=>Calls.spliced_nil ⟨[],H,I,.nil,h⟩
theorem br (ha:PE X e te) (hr:PA X es t) (hs:starEach (e::es) X.env=(false,eval e X.env)::starEach es X.env:=by rfl):PA X (e::es) (D4 te t):=by
 intro pos pins s σ H Q I h
 rw [hs]
 show wpAny _ _ (spliced ((false,eval e X.env)::backTo pos (starEach es X.env))) _ _ s
 refine Calls.spliced_cons (iy (ha pins s σ H _ I h) fun u s1 ⟨x,H1,I1,r1,q1⟩=>?_)
 exact iy (hr pos pins s1 σ H1 _ I1 q1) fun us s2 ⟨xs,H2,I2,r2,q2⟩=>⟨x::xs,H2,I2,.cons r1 r2,q2⟩
noncomputable def V9 (t:TA):TE:=fun σ H Q=>t σ H fun xs H1=>xs.length≤sizeLine∧∀p,H1 p=none→Q (.ref p) (upd H1 p (.tup xs))
noncomputable def V_ (t:TA):TE:=fun σ H Q=>t σ H fun xs H1=>xs.length≤sizeLine∧∀p,H1 p=none→Q (.ref p) (upd H1 p (.lst xs))
theorem KD {x1} (h:PA X es t):PE X (.Tuple es x1 pos) (V9 t):=by
 intro pins s σ H Q I hq
 refine wpAny_Tuple_spliced (iy (h pos pins s σ H _ I hq) fun us s1 ⟨xs,H1,I1,r,z,q⟩=>⟨by rw [←r.length];exact z,?_⟩)
 have hf:H1 s1.heap.objs.size=none:=I1.gk.fresh (aY _)
 refine ⟨.ref s1.heap.objs.size,upd H1 s1.heap.objs.size (.tup xs),I1.laid (t':=s1.toks) (fun b u e=>Heap.get?_push_of_some _ e) (aY _) ?_,rfl,q _ hf⟩
 exact ⟨z,us,r,⟨_,Heap.get?_push_size _ rfl,rfl,_,rfl⟩⟩
theorem uQ (h:PA X es t):PE X (.List es pos) (V_ t):=by
 intro pins s σ H Q I hq
 refine wpAny_List_spliced (iy (h pos pins s σ H _ I hq) fun us s1 ⟨xs,H1,I1,r,z,q⟩=>⟨by rw [←r.length];exact z,?_⟩)
 have hf:H1 s1.heap.objs.size=none:=I1.gk.fresh (aY _)
 refine ⟨.ref s1.heap.objs.size,upd H1 s1.heap.objs.size (.lst xs),I1.laid (t':=s1.toks) (fun b u e=>Heap.get?_push_of_some _ e) (aY _) ?_,rfl,q _ hf⟩
 exact ⟨z,us,0,r,Heap.get?_push_size _ rfl⟩
end
noncomputable abbrev Sp:=List V→Hp→VK→XK→Prop
noncomputable abbrev Hw:=List Env→Hp→Shared→XK→Value→Shared→Prop
structure Ah (P:Program) (w:World) (K:ab) (mg:Str→Option Value) (base:Heap) (A:Around) (outer:List Env) (s:Shared) (H:Hp):Prop where
 frames:A.frames=some outer
 mod:Mod K mg base
 bs:∀b o,base.get? b=some o→s.heap.get? b=some o∧H b=none
 Kg:base.objs.size≤s.heap.objs.size
 uL:s.heap.FunFrames base outer
 ON:∀b∈Kf outer,H b=none
 gk:tJ P w H s.heap
 bare:AllBare s.gens
noncomputable def CE (outer:List Env) (P:Program) (w:World) (H:Hp) (s:Shared) (Q:VK) (u:Value) (s':Shared):Prop :=
 ∃v H',s'.os=s.os∧AllBare s'.gens∧Un (Kf outer) [] H H' s.heap s'.heap∧tJ P w H' s'.heap∧RelV v u∧Q v H'
noncomputable def CR (CX:Hw) (outer:List Env) (P:Program) (w:World) (H:Hp) (s:Shared) (Q:VK) (E:XK) (r:Result) (s':Shared):Prop :=
 match r with
 | .ok (.ret u)=>CE outer P w H s Q u s'
 | .ok _=>False
 | .error e=>CX outer H s E e s'
structure eS (P:Program) (w:World) (K:ab) (mg:Str→Option Value) (base:Heap) (CX:Hw) (k:Nat) (f:Addr) (fd:FuncData) (ps:List Str) (sp:Sp):Prop where
 len:∀vs H Q E,sp vs H Q E→vs.length=ps.length
 run:∀(A:Around) (outer:List Env) (s:Shared) (H:Hp) (args:Args) (us:List Value) (vs:List V) (Q:VK) (E:XK),kb k A→Ah P w K mg base A outer s H→BindsTo s fd args (ps.zip us)→Vals vs us→sp vs H Q E →
  codeAny (model P w) A (.call (.ref f) args) (CR CX outer P w H s Q E) s
theorem eS.mono {P:Program} {w:World} {K:ab} {mg:Str→Option Value} {base:Heap} {CX:Hw} {j k:Nat} {f:Addr} {fd:FuncData} {ps:List Str} {sp:Sp} (F:eS P w K mg base CX j f fd ps sp) (h:j≤k) :
  eS P w K mg base CX k f fd ps sp:=⟨F.len,fun A outer s H args us vs Q E hr=>F.run A outer s H args us vs Q E (hr.mono h)⟩
theorem eS.imp {P:Program} {w:World} {K:ab} {mg:Str→Option Value} {base:Heap} {CX:Hw} {k:Nat} {f:Addr} {fd:FuncData} {ps:List Str} {sp Yd:Sp} (F:eS P w K mg base CX k f fd ps sp)
  (h:∀vs H Q E,Yd vs H Q E→sp vs H Q E):eS P w K mg base CX k f fd ps Yd :=
 ⟨fun vs H Q E q=>F.len vs H Q E (h _ _ _ _ q),fun A outer s H args us vs Q E hr he hb hv hs=>F.run A outer s H args us vs Q E hr he hb hv (h _ _ _ _ hs)⟩
theorem Ah.make {P:Program} {w:World} {K:ab} {mg:Str→Option Value} {base:Heap} {A:Around} {outer:List Env} {s:Shared} {H:Hp} (e:Ah P w K mg base A outer s H) (C:Addr) (us:List Value) (kw:List (Str×Value)) :
  Ah P w K mg base (A.under (.builtin "type.__call__" ⟨.ref C::us,kw⟩)) outer s H:=⟨by first|exact e.frames|(simpa [Around.under,Code.envs,Code.isFrame,pushEnvs] using e.frames),e.mod,e.bs,e.Kg,e.uL,e.ON,e.gk,e.bare⟩
theorem Ah.in1 {P:Program} {w:World} {K:ab} {mg:Str→Option Value} {base:Heap} {A:Around} {outer:List Env} {s:Shared} {H:Hp} (e:Ah P w K mg base A outer s H) :
  Ah P w K mg base A.in1 outer s H:=⟨e.frames,e.mod,e.bs,e.Kg,e.uL,e.ON,e.gk,e.bare⟩
section
variable {X:Cx} {pins:List (Addr×Obj)} {σ:St} {H:Hp} {s s':Shared}
theorem Inv.SO (I:Inv X pins σ H s):Ah X.prog X.w X.K X.mg X.base X.A X.stack s H :=
 ⟨I.ok.frames,I.ok.mod,I.bs,aP I.ok.Kg I.sz,I.stack,I.Hm,I.gk,I.bare⟩
theorem Inv.after {Q:VK} {u:Value} (I:Inv X pins σ H s) (h:CE X.stack X.prog X.w H s Q u s'):EP X pins σ Q u s':=by
 obtain ⟨v,H',os,bare,un,gk,r,q⟩:=h
 obtain ⟨hh,g,d,t,Zx⟩:=s'
 obtain rfl:Zx=s.os:=os
 exact ⟨v,H',I.call (h':=hh) (g':=g) (d':=d) (t':=t) (ch:=[]) un gk bare (fun b z=>absurd z (by simp)),r,q⟩
end
noncomputable def Hx (sp:Sp) (Gd:List V) (E:XK) (t:TA):TE:=fun σ H Q=>t σ H fun vs H1=>sp (vs++Gd) H1 Q E
noncomputable def OS (C:Addr) (sp:Sp) (Gd:List V) (E:XK) (t:TA):TE:=fun σ H Q=>t σ H fun vs H1=>∀x dx,H1 x=none→H1 dx=none→dx≠x →
 sp (.ref x::(vs++Gd)) (upd (upd H1 dx (.own x)) x (.ins C dx [])) (fun v H2=>v=.gH∧Q (.ref x) H2) E
noncomputable def Binds (K:ab) (fd:FuncData) (ps:List Str) (ds:List Value):Prop :=
 ∀(s:Shared) (us:List Value),K.In s.heap→(us++ds).length=ps.length→BindsTo s fd ⟨us,[]⟩ (ps.zip (us++ds))
theorem Binds.all {K:ab} {fd:FuncData} {ps:List Str} (h:∀us:List Value,us.length=ps.length→bindArgs fd ⟨us,[]⟩=pure (ps.zip us)):Binds K fd ps []:=fun s us _ hl=>by
 rw [gn] at hl ⊢
 exact .of_eq (h us hl)
noncomputable def Passes (CX:Hw) (X:Cx) (E:XK):Prop:=∀(pins:List (Addr×Obj)) (σ:St) (H:Hp) (s:Shared) (e:Value) (s':Shared),Inv X pins σ H s→CX X.stack H s E e s'→X.xe e s'
section
variable {X:Cx} {CX:Hw} {k:Nat} {f C:Addr} {fd:FuncData} {ps:List Str} {sp:Sp} {Gd:List V} {ds:List Value} {E:XK} {x m:Str} {p pos apos:Pos} {e o:Expr} {es:List Expr} {ta:TE} {t:TA}
theorem Qi {pins:List (Addr×Obj)} {σ:St} {H:Hp} {s:Shared} {Q:VK} {us:List Value} {vs:List V} (F:eS X.prog X.w X.K X.mg X.base CX k f fd ps sp) (hr:kb k X.A) (hb:Binds X.K fd ps ds) (hd:Vals Gd ds) (hx:Passes CX X E)
  (I:Inv X pins σ H s) (r:Vals vs us) (h:sp (vs++Gd) H Q E):wpAny (model X.prog X.w) X.A (call (.ref f) us) (EP X pins σ Q) X.xe s:=by
 have r2:Vals (vs++Gd) (us++ds):=r.append hd
 have hl:(us++ds).length=ps.length:=by rw [←r2.length];exact F.len _ _ _ _ h
 refine wpAny_call (codeAny_mono (F.run X.A X.stack s H ⟨us,[]⟩ (us++ds) (vs++Gd) Q E hr I.SO (hb s us I.Kj hl) r2 h) fun r s' hq=>?_)
 cases r with
 | error e=>exact hx pins σ H s e s' I hq
 | ok fl =>
  cases fl with
  | ret u=>exact I.after hq
  | next=>exact False.elim hq
  | brk=>exact False.elim hq
  | cont=>exact False.elim hq
theorem Hy (F:eS X.prog X.w X.K X.mg X.base CX k f fd ps sp) (hr:kb k X.A) (hg:Gl X x) (hm:X.mg x=some (.ref f)) (hk:dt X.K (.ref f)=true) (hb:Binds X.K fd ps ds) (hd:Vals Gd ds) (hx:Passes CX X E)
  (ha:PA X (e::es) t) (Ge:(x == ("__debug__" : Str))=false:=by decide) (he:starEach (e::es) X.env=(false,eval e X.env)::starEach es X.env:=by rfl) (Je:(backTo pos (starEach es X.env)).any (·.1)=false:=by rfl) :
  PE X (.Call (.Name x p) (e::es) [] pos) (Hx sp Gd E t):=by
 intro pins s σ H Q I h
 refine wpAny_Call_Name_kw (Cn I hg hm ?_ Ge)
 refine PySem.W.callWith_K (h₀:=X.base) I.ok.mod.VL hk (iy (ha pos pins s σ H _ I h) fun us s1 ⟨vs,H1,I1,r,q⟩=>⟨I1.Kj,?_⟩) he Je
 exact Qi F hr hb hd hx I1 r q
structure Mk (K:ab) (C f:Addr):Prop where
 makes:p9 K C=true
 init:cK K (.ref C) "__init__" = some (some (.ref f))
 fn:FK K (.ref f)=true
 kp:dt K (.ref C)=true
theorem KG {pins:List (Addr×Obj)} {σ:St} {H:Hp} {s:Shared} {Q:VK} {us:List Value} {vs:List V} (M:Mk X.K C f) (F:eS X.prog X.w X.K X.mg X.base CX k f fd ps sp) (hr:kb (k+1) X.A) (hb:Binds X.K fd ps ds) (hd:Vals Gd ds)
  (hx:Passes CX X E) (I:Inv X pins σ H s) (r:Vals vs us)
  (h:∀x dx,H x=none→H dx=none→dx≠x→sp (.ref x::(vs++Gd)) (upd (upd H dx (.own x)) x (.ins C dx [])) (fun v H2=>v=.gH∧Q (.ref x) H2) E) :
  wpAny (model X.prog X.w) X.A (call (.ref C) us) (EP X pins σ Q) X.xe s:=by
 have hq:=h (s.heap.objs.size+1) s.heap.objs.size (I.gk.fresh (Nat.le_succ _)) (I.gk.fresh (aY _)) (cF (q0 _))
 have I2:=Inv.made (C:=C) I
 have r2:Vals (V.ref (s.heap.objs.size+1)::(vs++Gd)) (Value.ref (s.heap.objs.size+1)::(us++ds)):=.cons rfl (r.append hd)
 have hl:(Value.ref (s.heap.objs.size+1)::us++ds).length=ps.length:=by
  have e:=r2.length
  rw [F.len _ _ _ _ hq] at e
  exact e.symm
 refine wpAny_call (KC (f:=f) I.Kj M.makes M.init (beq_iff_eq.mp M.fn) (codeAny_mono (F.run _ X.stack _ _ ⟨Value.ref (s.heap.objs.size+1)::us,[]⟩ (Value.ref (s.heap.objs.size+1)::(us++ds)) _ _ E (hr.make C us [])
  (I2.SO.make C us []) (hb _ (Value.ref (s.heap.objs.size+1)::us) I2.Kj hl) r2 hq) fun r s' OT=>?_))
 cases r with
 | error e=>exact hx pins σ _ _ e s' I2 OT
 | ok fl =>
  cases fl with
  | ret u =>
   obtain ⟨v,H',I3,rv,ev,q3⟩:=I2.after OT
   subst ev
   exact ⟨rv,⟨V.ref (s.heap.objs.size+1),H',I3,rfl,q3⟩⟩
  | next=>exact False.elim OT
  | brk=>exact False.elim OT
  | cont=>exact False.elim OT
theorem KH (M:Mk X.K C f) (F:eS X.prog X.w X.K X.mg X.base CX k f fd ps sp) (hr:kb (k+1) X.A) (hg:Gl X x) (hm:X.mg x=some (.ref C)) (hb:Binds X.K fd ps ds) (hd:Vals Gd ds) (hx:Passes CX X E)
  (Ge:(x == ("__debug__" : Str))=false:=by decide):PE X (.Call (.Name x p) [] [] pos) (OS C sp Gd E Jd):=by
 intro pins s σ H Q I h
 refine wpAny_Call_Name_kw (Cn I hg hm ?_ Ge)
 exact PySem.W.callWith_K0 I.Kj M.kp (KG (us:=[]) M F hr hb hd hx I .nil h)
end
section
variable {X:Cx} {CX:Hw} {k:Nat} {f C:Addr} {fd:FuncData} {ps ks:List Str} {sp:Sp} {E:XK} {x m:Str} {p pos apos Zy:Pos} {e o:Expr} {es:List Expr} {kws:List Keyword} {te ta:TE} {t tk:TA} {nm:Option Str}
variable {g:List Value→List Value→List Value} {gV:List V→List V→List V}
end
structure aS (N P:List Str) (sc:Scope):Prop where
 kind:sc.kind=.function
 co:sc.isCoroutine=false
 gen:sc.isGenerator=false
 nd:N.Nodup
 pre:N.take P.length=P
 par:∀x∈P,sc.names.lookup x=some .local∨sc.names.lookup x=some .cell
 Qj:∀y∈sc.names,y.2≠.free
theorem Bv {kindOf:Str→Option NameKind} {x:Str}:∀{binds:List (Str×Value)} {m:Str→Option Value},(∀v,(x,v) ∉ binds)→bindL kindOf binds m x=m x
 | [],_,_=>rfl
 | (n,v)::r,m,h=>by
  unfold bindL
  rw [Bv fun w hw=>h w (bu _ hw)]
  split
  ·have:x≠n:=by rintro rfl;exact h v cg
   simp [this]
  ·rfl
theorem Bw {kindOf:Str→Option NameKind} {x:Str}:∀{binds:List (Str×Value)} {m:Str→Option Value},(∀v,(x,v) ∉ binds)→bindC kindOf binds m x=m x
 | [],_,_=>rfl
 | (n,v)::r,m,h=>by
  unfold bindC
  rw [Bw fun w hw=>h w (bu _ hw)]
  split
  ·rfl
  ·have:x≠n:=by rintro rfl;exact h v cg
   simp [this]
theorem Bx {kindOf:Str→Option NameKind} {x:Str} {v:Value}:∀{P:List Str} {vs:List Value} {i:Nat} {m:Str→Option Value},P.Nodup→P[i]?=some x→vs[i]?=some v→kindOf x=some .local →
  bindL kindOf (P.zip vs) m x=some v
 | [],_,_,_,_,h,_,_=>by simp at h
 | _::_,[],_,_,_,_,h,_=>by simp at h
 | p::P,w::vs,0,m,nd,h1,h2,hk=>by
  simp at h1 h2;subst h1;subst h2
  show bindL kindOf ((p,w)::P.zip vs) m p=_
  unfold bindL
  rw [Bv fun v hv=>(r4.mp nd).1 (Cb hv).1,if_pos hk]
  simp
 | p::P,w::vs,i+1,m,nd,h1,h2,hk=>by
  show bindL kindOf ((p,w)::P.zip vs) m x=_
  unfold bindL
  exact Bx (i:=i) (r4.mp nd).2 (by simpa using h1) (by simpa using h2) hk
theorem By {kindOf:Str→Option NameKind} {x:Str} {v:Value}:∀{P:List Str} {vs:List Value} {i:Nat} {m:Str→Option Value},P.Nodup→P[i]?=some x→vs[i]?=some v→kindOf x≠some .local →
  bindC kindOf (P.zip vs) m x=some v
 | [],_,_,_,_,h,_,_=>by simp at h
 | _::_,[],_,_,_,_,h,_=>by simp at h
 | p::P,w::vs,0,m,nd,h1,h2,hk=>by
  simp at h1 h2;subst h1;subst h2
  show bindC kindOf ((p,w)::P.zip vs) m p=_
  unfold bindC
  rw [Bw fun v hv=>(r4.mp nd).1 (Cb hv).1,if_neg hk]
  simp
 | p::P,w::vs,i+1,m,nd,h1,h2,hk=>by
  show bindC kindOf ((p,w)::P.zip vs) m x=_
  unfold bindC
  exact By (i:=i) (r4.mp nd).2 (by simpa using h1) (by simpa using h2) hk
noncomputable def start (N:List Str) (vs:List V):St:=vs.map some++aH (N.length - vs.length) none
noncomputable def iz (CX:Hw) (P:Program) (w:World) (K:ab) (mg:Str→Option Value) (base:Heap) (N:List Str) (qual:Str) (scope:Scope) (f:Addr) (cd:Value) (A:Around) (outer:List Env) (s:Shared) (H:Hp) (E:XK):Cx where
 prog:=P
 w:=w
 K:=K
 mg:=mg
 base:=base
 A:=A.deeper (envOfC qual scope s.heap.objs.size f cd)
 N:=N
 Bt:=s
 R_:=H
 env:=envOfC qual scope s.heap.objs.size f cd
 outer:=outer
 stack:=envOfC qual scope s.heap.objs.size f cd::outer
 ex:=[]
 calm:=true
 fn:=fun _=>true
 pn:=[]
 xe:=fun e s'=>wpAny (model P w) (A.deeper (envOfC qual scope s.heap.objs.size f cd)) (leaving (envOfC qual scope s.heap.objs.size f cd) e) (fun _ Wa=>CX outer H s E e Wa) (fun e' Wa=>CX outer H s E e' Wa) s'
theorem D5 {sc:Scope} {n:Nat} {x:Str} (h:sc.names.lookup x=some .cell):∃c,(cellsFrom n sc.names []).lookup x=some c:=by
 have q:=FN sc.names n [] (.inl h)
 exact Option.isSome_iff_exists.mp q
theorem Jf {CX:Hw} {P:Program} {w:World} {K:ab} {mg:Str→Option Value} {base:Heap} {N ps:List Str} {qual:Str} {scope:Scope} {f:Addr} {cd:Value} {A:Around} {outer:List Env} {s s1:Shared} {H:Hp} {E:XK} {us:List Value} {vs:List V}
  (S:aS N ps scope) (hd:A.handled=none) (e0:Ah P w K mg base A outer s H) (hl:vs.length=ps.length) (r:Vals vs us)
  (x:InCallC s s.heap.objs.size (bindL (envOfC qual scope s.heap.objs.size f cd).kindOf (ps.zip us) fun _=>none) (cellsFrom (s.heap.objs.size+1) scope.names []) (bindC (envOfC qual scope s.heap.objs.size f cd).kindOf (ps.zip us) fun _=>none) s1) :
  Inv (iz CX P w K mg base N qual scope f cd A outer s H E) [] (start N vs) H s1:=by
 have Je:ps.length≤N.length:=by have:=congrArg mq S.pre;rw [c0] at this;omega
 obtain ⟨h1,tk,rfl,hk⟩:=x.done
 have RS:∀b:Addr,b ∉ (iz CX P w K mg base N qual scope f cd A outer s H E).ex:=fun b z=>absurd (show b∈([]:List Addr) from z) (by simp)
 refine ⟨⟨e0.mod,S.kind,rfl,rfl,aY _,fun y z c h1 h2=>?_,fun y hy=>?_,fun y c _ h=>?_,fun _=>hd,Around.frames_deeper e0.frames,.inr ⟨rfl,rfl⟩,fun b z=>absurd z (RS b),e0.bs,e0.Kg,fun b _ _=>RS b,fun b z=>absurd z (RS b),e0.uL,e0.ON⟩,
  rfl,e0.bare,Un.kept hk,⟨_,x.toInCall.ns,fun i y v h1 h2 h3=>?_⟩,fun y c h=>⟨_,x.cell y c h⟩,e0.gk.fresh (aY _),fun y c h=>?_,fun p hp=>absurd (show p∈([]:List (Addr×Obj)) from hp) (by simp),e0.gk.kept hk,?_⟩
 ·exact name_of_addr x.apart (PySem.mem_of_lookup h1) (PySem.mem_of_lookup h2)
 ·have hy:scope.names.lookup y=some .cell∨scope.names.lookup y=some .free:=hy
  rcases hy with hy|hy
  ·exact D5 hy
  ·exact absurd rfl (S.Qj _ (PySem.mem_of_lookup hy))
 ·exact JY (x.above y c (PySem.mem_of_lookup h))
 ·have hi:i < vs.length:=by
   unfold start at h2
   by_cases hi:i < vs.length
   ·exact hi
   ·rw [jf (by simpa using hi)] at h2
    rw [p_] at h2
    split at h2<;>cases h2
  have ha:vs[i]?=some v:=by
   unfold start at h2
   rw [jz (by simpa using hi),b8] at h2
   cases e:vs[i]? with
   | none=>rw [e] at h2;cases h2
   | some a=>rw [e] at h2;cases h2;rfl
  obtain ⟨u,hu,rv⟩:=r.get ha
  have hp:ps[i]?=some y:=by
   rw [←S.pre,List.getElem?_take_of_lt (by omega)];exact h1
  have Ye:ps.Nodup:=by rw [←S.pre];exact S.nd.sublist (List.take_sublist _ _)
  refine ⟨u,rv,?_⟩
  rcases S.par y (b7 hp) with k|k
  ·exact .inl ⟨k,Bx Ye hp hu k⟩
  ·obtain ⟨c,e⟩:=D5 (n:=s.heap.objs.size+1) k
   refine .inr ⟨.inl k,c,e,?_⟩
   have q:=x.cell y c e
   rw [By Ye hp hu (by show scope.names.lookup y≠_;rw [k];decide)] at q
   exact q
 ·exact e0.gk.fresh (JY (x.above y c (PySem.mem_of_lookup h)))
 ·unfold start
  show _=N.length
  rw [ax,ah,c9]
  omega
theorem SQ {CX:Hw} {P:Program} {w:World} {K:ab} {mg:Str→Option Value} {base:Heap} {k:Nat} {f:Addr} {name qual:Str} {params:Arguments} {body:List Stmt} {scope:Scope} {dV kV doc pm ft ct oc:Value} {an od:Option Addr}
  {Ab:Array (Option Value)} {N ps:List Str} {sp:Sp} (lk:K.lookup f=some ⟨oc,od,.func (fH name qual params body scope dV kV doc pm an ft ct),Ab⟩) (Kk:i7 K ft qual=true) (S:aS N ps scope)
  (len:∀vs H Q E,sp vs H Q E→vs.length=ps.length)
  (KI:∀(A:Around) (outer:List Env) (s:Shared) (H:Hp) (vs:List V) (Q:VK) (E:XK),kb k (A.deeper (envOfC qual scope s.heap.objs.size f ft))→sp vs H Q E →
   ∃t,wm (iz CX P w K mg base N qual scope f ft A outer s H E) body t∧t { nx:=fun _ H'=>Q .gH H',rt:=Q } (start N vs) H) :
  eS P w K mg base CX (k+1) f (fH name qual params body scope dV kV doc pm an ft ct) ps sp:=by
 refine ⟨len,fun A outer s H args us vs Q E hr e0 hb r MV=>?_⟩
 have hl:=len _ _ _ _ MV
 have KX:K.In s.heap:=e0.mod.VL.keeps fun b o e=>(e0.bs b o e).1
 have lim:s.heap.NoLimit:=e0.mod.nolimit.keeps fun b o e=>(e0.bs b o e).1
 have SR:∀y∈ps.zip us,scope.names.lookup y.1=some .local∨(scope.names.lookup y.1=some .cell∧((cellsFrom (s.heap.objs.size+1) scope.names []).lookup y.1).isSome=true):=fun ⟨n,v⟩ hy=>by
  rcases S.par n (Cb hy).1 with q|q
  ·exact .inl q
  ·exact .inr ⟨q,FN _ _ _ (.inl q)⟩
 refine codeAny_call_function hr.depth (KX _ _ lk) rfl S.co S.gen rfl (PySem.W.codeRec_of KX Kk) (hb _ _ _ _ ?_)
 refine wpAny_newFunctionEnv_cells S.kind SR fun env he s1 x=>?_
 subst he
 refine ⟨lim.keeps x.toInCall.keep,codeAny_func ?_⟩
 obtain ⟨t,ht,hq⟩:=KI A outer s H vs Q E (hr.deeper _) MV
 have I:Inv (iz CX P w K mg base N qual scope f ft A outer s H E) [] (start N vs) H s1:=Jf S hr.hd e0 hl r x
 refine wpAny_mono (ht [] s1 (start N vs) H _ I hq) (fun fl s' hs=>?_) fun e s' hs=>hs
 have fin:∀{fJ:St} {H':Hp} {v:V} {u:Value},Inv (iz CX P w K mg base N qual scope f ft A outer s H E) [] fJ H' s'→RelV v u→Q v H'→CE outer P w H s Q u s' :=
  fun {fJ H' v u} J rv q=>⟨v,H',J.os,J.bare,J.base,J.gk,rv,q⟩
 cases fl with
 | ret u =>
  obtain ⟨v,fJ,H',J,rv,q⟩:=hs
  exact fin J rv q
 | next =>
  obtain ⟨fJ,H',J,q⟩:=hs
  exact fin (v:=V.gH) (u:=Value.none) J rfl q
 | brk =>
  obtain ⟨_,_,_,q⟩:=hs
  exact False.elim q
 | cont =>
  obtain ⟨_,_,_,q⟩:=hs
  exact False.elim q
end L2
namespace L2
open PySem PySem.Spec PyProof.Rows
section
variable {X:Cx} {x:Str} {p pos:Pos} {e:Expr} {es:List Expr} {t:TA} {id T:String} {r:List V→Hp→VK→Prop}
noncomputable def Wb (r:List V→Hp→VK→Prop) (t:TA):TE:=fun σ H Q=>t σ H fun vs H1=>r vs H1 Q
theorem D6 (hc:tL X (.builtin id) r) (hg:Gl X x) (hm:X.mg x=none) (hv:bootBuiltins x=some (.builtin id)) (ha:PA X (e::es) t) (hn:x ≠ "__name__" := by decide) (Ge:(x == ("__debug__" : Str))=false:=by decide)
  (he:starEach (e::es) X.env=(false,eval e X.env)::starEach es X.env:=by rfl) (Je:(backTo pos (starEach es X.env)).any (·.1)=false:=by rfl):PE X (.Call (.Name x p) (e::es) [] pos) (Wb r t):=by
 intro pins s σ H Q I h
 refine wpAny_Call_Name_kw (oR I hg hm hv ?_ hn Ge)
 exact PyProof.Rows.callWith_builtin1 (iy (ha pos pins s σ H _ I h) fun us s1 ⟨vs,H1,I1,r1,q1⟩=>hc pins s1 σ H1 vs us Q I1 r1 q1) he Je
theorem mm (hc:tL X (.type T) r) (hg:Gl X x) (hm:X.mg x=none) (hv:bootBuiltins x=some (.type T)) (ha:PA X (e::es) t) (hn:x ≠ "__name__" := by decide) (Ge:(x == ("__debug__" : Str))=false:=by decide)
  (he:starEach (e::es) X.env=(false,eval e X.env)::starEach es X.env:=by rfl) (Je:(backTo pos (starEach es X.env)).any (·.1)=false:=by rfl):PE X (.Call (.Name x p) (e::es) [] pos) (Wb r t):=by
 intro pins s σ H Q I h
 refine wpAny_Call_Name_kw (oR I hg hm hv ?_ hn Ge)
 exact PyProof.Rows.callWith_type1 (iy (ha pos pins s σ H _ I h) fun us s1 ⟨vs,H1,I1,r1,q1⟩=>hc pins s1 σ H1 vs us Q I1 r1 q1) he Je
end
end L2
namespace HT
open PySem PyProof.Rows
section
open PySem.SeqAt
open PySem.AutoSeq1 (wpAny_loadPart')
open PySem.MeetsSeq PySem.MeetsSeq2 PySem.MeetsSeq3
end
section
variable {prog:Program} {w:World} {A:Around} {E:Value→Shared→Prop} {s:Shared}
noncomputable def D7 (n d:Nat):Option Int→Nat
 | none=>d
 | some v=>if v < 0 then (v+(n:Int)).toNat else min v.toNat n
theorem Nz (n d k:Nat):D7 n d (some (k:Int))=min k n:=by
 show (if (k:Int) < 0 then ((k:Int)+(n:Int)).toNat else min (k:Int).toNat n)=min k n
 rw [if_neg (by omega),ja]
end
end HT
namespace L2
open PySem PySem.Spec PyProof.Rows
noncomputable abbrev TO:=St→Hp→(Option Int→Hp→Prop)→Prop
noncomputable def PO (X:Cx) (e:Option Expr) (t:TO):Prop :=
 ∀(pins:List (Addr×Obj)) (s:Shared) (σ:St) (H:Hp) (Q:Option Int→Hp→Prop),Inv X pins σ H s→t σ H Q →
  wpAny (model X.prog X.w) X.A (evalPart e X.env) (fun u s'=>∃o H',Inv X pins σ H' s'∧IsPart u o∧Q o H') X.xe s
noncomputable def NA:TO:=fun _ H Q=>Q none H
noncomputable def SS (t:TE):TO:=fun σ H Q=>t σ H fun x H1=>∃i,x=.int i∧Q (some i) H1
theorem intsAre_of {ns:List Int}:∀{us:List Value},Vals (ns.map V.int) us→IntsAre us ns:=by
 induction ns with
 | nil=>intro us r;rw [x9] at r;cases r;exact .nil
 | cons n ns ih =>
  intro us r
  rw [aO] at r
  cases r with
  | cons r1 r2 =>
   obtain ⟨t,e⟩:=r1
   subst e
   exact .cons n t (ih r2)
section
variable {X:Cx} {e:Expr} {te:TE} {lo hi:Option Expr} {tl th:TO} {pos p2:Pos}
theorem NC:PO X none NA:=by
 intro pins s σ H Q I h
 rw [evalPart_none]
 exact wpAny_pure ⟨none,H,I,.none,h⟩
theorem tN (h:PE X e te):PO X (some e) (SS te):=by
 intro pins s σ H Q I hw
 rw [evalPart_some]
 refine iy (h pins s σ H _ I hw) fun u s1 ⟨x,H1,I1,r1,q1⟩=>?_
 obtain ⟨i,rfl,q⟩:=q1
 obtain ⟨t,rfl⟩:=r1
 exact ⟨some i,H1,I1,.int i t,q⟩
noncomputable def Yf (X:Cx) (r:V→Option Int→Option Int→Hp→VK→Prop):Prop :=
 ∀(pins:List (Addr×Obj)) (s:Shared) (σ:St) (H:Hp) (x:V) (v vl vu:Value) (lo hi:Option Int) (sl:Addr) (Q:VK),Inv X pins σ H s→RelV x v→s.heap.IsSliceOf sl vl vu .none→IsPart vl lo→IsPart vu hi→r x lo hi H Q →
  ∃T id,typeLookup (.type T) "__getitem__" = pure (some (.builtin id))∧s.TypeIs v T∧wpAny (model X.prog X.w) X.A (getItem v (.ref sl)) (EP X pins σ Q) X.xe s
noncomputable def Zz (r:V→Option Int→Option Int→Hp→VK→Prop) (te:TE) (tl th:TO):TE:=fun σ H Q=>te σ H fun x H1=>tl σ H1 fun l H2=>th σ H2 fun u H3=>r x l u H3 Q
theorem yf {r:V→Option Int→Option Int→Hp→VK→Prop} (hr:Yf X r) (he:PE X e te) (hl:PO X lo tl) (hu:PO X hi th):PE X (.Subscript e (.Slice lo hi none p2) pos) (Zz r te tl th):=by
 intro pins s σ H Q I h
 refine Subscript_ (iy (he pins s σ H _ I h) fun v s1 ⟨x,H1,I1,r1,q1⟩=>?_)
 refine wpAny_Slice (iy (hl pins s1 σ H1 _ I1 q1) fun vl s2 ⟨l,H2,I2,pl,q2⟩=>iy (hu pins s2 σ H2 _ I2 q2) fun vu s3 ⟨u,H3,I3,pu,q3⟩=>?_)
 rw [evalPart_none]
 refine wpAny_pure ?_
 have I4:Inv X pins σ H3 { s3 with heap:=s3.heap.push { cls:=.type "slice",data:=.fields #[vl,vu,.none] } }:=I3.kept (t':=s3.toks) fun b ob q=>Heap.get?_push_of_some _ q
 obtain ⟨T,id,hT,ht,hg⟩:=hr pins { s3 with heap:=s3.heap.push { cls:=.type "slice",data:=.fields #[vl,vu,.none] } } σ H3 x v vl vu l u s3.heap.objs.size Q I4 r1 (Heap.IsSliceOf.new ..) pl pu q3
 show wpAny (model X.prog X.w) X.A (subscriptTail e (.Slice lo hi none p2) v (.ref s3.heap.objs.size)) (EP X pins σ Q) X.xe { s3 with heap:=s3.heap.push { cls:=.type "slice",data:=.fields #[vl,vu,.none] } }
 exact tail_any (ops:=[.ref s3.heap.objs.size,v]) ht hT hg (by with_unfolding_all rfl)
noncomputable def D8 (xs:List V) (lo hi:Option Int):List V:=(xs.drop (HT.D7 xs.length 0 lo)).take (HT.D7 xs.length xs.length hi - HT.D7 xs.length 0 lo)
theorem D9 (xs:List V) (lo hi:Option Int):(D8 xs lo hi).length≤xs.length:=by
 unfold D8
 rw [c0,Af]
 omega
end
end L2
namespace L2
open PySem PySem.Spec PyProof.Rows
noncomputable def MW (n:Nat) (i:Int):Option Nat:=if 0≤i then (if i < n then some i.toNat else none) else if -(n:Int)≤i then some (i+n).toNat else none
noncomputable def OU {α:Type} (xs:List α) (i:Int):Option α:=(MW xs.length i).bind fun j=>xs[j]?
theorem Cr {n:Nat} {i:Int} {j:Nat} (h:MW n i=some j):seqIndex? i n=some j∧j < n∧-(n:Int)≤i∧i < n:=by
 unfold MW at h
 by_cases h0:0≤i
 ·rw [if_pos h0] at h
  by_cases h1:i < n
  ·rw [if_pos h1] at h
   have e:i.toNat=j:=bC.inj h
   exact ⟨by rw [seqIndex_of h0 h1,e],by omega,by omega,h1⟩
  ·rw [if_neg h1] at h;cases h
 ·rw [if_neg h0] at h
  by_cases h1:-(n:Int)≤i
  ·rw [if_pos h1] at h
   have e:(i+n).toNat=j:=bC.inj h
   exact ⟨by rw [seqIndex_neg (by omega) h1,e],by omega,h1,by omega⟩
  ·rw [if_neg h1] at h;cases h
theorem HA {α:Type} {xs:List α} {i:Int} {v:α} (h:OU xs i=some v):∃j,seqIndex? i xs.length=some j∧xs[j]?=some v∧j < xs.length∧-(xs.length:Int)≤i∧i < xs.length:=by
 unfold OU at h
 cases e:MW xs.length i with
 | none=>rw [e] at h;cases h
 | some j =>
  rw [e] at h
  obtain ⟨h1,h2,h3,h4⟩:=Cr e
  exact ⟨j,h1,h,h2,h3,h4⟩
theorem HB {α:Type} {xs:List α} {j:Nat} {v:α} (h:xs[j]?=some v):OU xs (j:Int)=some v:=by
 have hj:j < xs.length:=(cv.mp h).1
 have e:MW xs.length (j:Int)=some j:=by
  unfold MW
  rw [if_pos (by omega),if_pos (by omega)];simp
 unfold OU;rw [e];exact h
noncomputable def HC (b:Expr):Prop:=∀o i,subscripted b false o i=operate [o,i] (getItem o i)
noncomputable def OV (X:Cx) (r:R2):Prop :=
 ∀(value slice:Expr) (pins:List (Addr×Obj)) (s:Shared) (σ:St) (H:Hp) (x y:V) (v u:Value) (Q:VK),Inv X pins σ H s→RelV x v→RelV y u→r x y H Q →
  subscripted slice false v u=operate [v,u] (getItem v u)→wpAny (model X.prog X.w) X.A (subscriptTail value slice v u) (EP X pins σ Q) X.xe s
noncomputable def Vd (X:Cx) (id:String) (r:V→List V→Hp→VK→Prop):Prop :=
 ∀(pins:List (Addr×Obj)) (s:Shared) (σ:St) (H:Hp) (x:V) (xs:List V) (v:Value) (us:List Value) (Q:VK),Inv X pins σ H s→RelV x v→Vals xs us→r x xs H Q →
  wpAny (model X.prog X.w) X.A (call (.builtin id) (v::us)) (EP X pins σ Q) X.xe s
section
variable {X:Cx} {a b:Expr} {ta tb:TE} {pos:Pos}
theorem OV.or {r r':R2} (h:OV X r) (h':OV X r'):OV X (fun x y H Q=>r x y H Q∨r' x y H Q):=by
 intro value slice pins s σ H x y v u Q I rx ry q hs
 rcases q with q|q
 ·exact h value slice pins s σ H x y v u Q I rx ry q hs
 ·exact h' value slice pins s σ H x y v u Q I rx ry q hs
theorem HD {r:R2} (hr:OV X r) (ha:PE X a ta) (hb:PE X b tb) (hs:HC b):PE X (.Subscript a b pos) (SD r ta tb):=by
 intro pins s σ H Q I h
 exact Subscript_ (P9 ha hb I h fun v u s2 x y H2 I2 rx ry q=>hr a b pins s2 σ H2 x y v u Q I2 rx ry q (hs _ _))
noncomputable def Wc (K:ab):R2:=fun x y H Q=>∃p xs i v,x=.ref p∧y=.int i∧fo K H p xs∧OU xs i=some v∧Q v H
noncomputable def We (K:ab):R2:=fun x y H Q=>∃p xs i v,x=.ref p∧y=.int i∧yc K H p xs∧OU xs i=some v∧Q v H
theorem xx:OV X (Wc X.K):=by
 intro value slice pins s σ H x y v u Q I rx ry h hs
 obtain ⟨p,xs,i,z,rfl,rfl,hq,he,q⟩:=h
 cases rx
 obtain ⟨t,rfl⟩:=ry
 obtain ⟨bU,r,pl,hz⟩:=I.list hq
 obtain ⟨j,h1,h2,h3,h4,h5⟩:=HA he
 obtain ⟨w,ew,SU⟩:=r.get h2
 have hl:=r.length
 have hn:=Cq
 have fin:EP X pins σ Q w s:=⟨z,H,I,SU,q⟩
 by_cases h0:0≤i
 ·have hj:i.toNat=j:=by
   rw [seqIndex_of h0 h5] at h1
   exact bC.inj h1
  exact item_listR pl.isList h0 (by omega) (by rw [hj];simpa using ew) fin hs
 ·have hj:(i+(bU.toArray.size:Int)).toNat=j:=by
   rw [seqIndex_neg (by omega) h4] at h1
   rw [aJ,←hl]
   exact bC.inj h1
  exact subscriptTail_builtinR (x:=w) pl.isList.typeIs slot_list_getitem.lookup
   (wpAny_getItem_list_neg (Q:=fun r s'=>r=w∧EP X pins σ Q r s') pl.isList (by omega) (by rw [aJ]<;>omega) (by omega) (by rw [hj];simpa using ew) ⟨rfl,fin⟩) hs
theorem Qk:OV X (We X.K):=by
 intro value slice pins s σ H x y v u Q I rx ry h hs
 obtain ⟨p,xs,i,z,rfl,rfl,hq,he,q⟩:=h
 cases rx
 obtain ⟨t,rfl⟩:=ry
 obtain ⟨bU,r,pl,hz⟩:=I.tuple hq
 obtain ⟨j,h1,h2,h3,h4,h5⟩:=HA he
 obtain ⟨w,ew,SU⟩:=r.get h2
 have hl:=r.length
 have hn:=Cq
 have fin:EP X pins σ Q w s:=⟨z,H,I,SU,q⟩
 exact subscriptTail_builtinR (x:=w) pl.typeIs slot_tuple_getitem.lookup
  (getItem_tuple (j:=j) (Q:=fun r s'=>r=w∧EP X pins σ Q r s') pl (by omega) (by omega) (by rw [aJ,←hl];exact h1) (by simpa using ew) ⟨rfl,fin⟩) hs
theorem Gf (bU:List Value) (n j:Nat) (u:Value):Obj.mapSeq (·.setIfInBounds j u) { cls:=.type "list",data:=.seq bU.toArray n }={ cls:=.type "list",data:=.seq (bU.set j u).toArray n }:=by
 simp [Obj.mapSeq]
theorem Inv.lst {pins:List (Addr×Obj)} {σ:St} {H:Hp} {s:Shared} {p:Addr} {xs:List V} (I:Inv X pins σ H s) (h:H p=some (.lst xs)) :
  ∃(bU:List Value) (n:Nat),Vals xs bU∧s.heap.get? p=some { cls:=.type "list",data:=.seq bU.toArray n }∧xs.length≤sizeLine:=by
 obtain ⟨z,bU,n,r,e⟩:=I.gk p _ h
 exact ⟨bU,n,r,e,z⟩
theorem Inv.Ql {pins:List (Addr×Obj)} {σ:St} {H:Hp} {s:Shared} {p:Addr} {xs ys:List V} {bU its':List Value} {n n':Nat} {f:Obj→Obj} (I:Inv X pins σ H s) (h:H p=some (.lst xs))
  (ho:s.heap.get? p=some { cls:=.type "list",data:=.seq bU.toArray n }) (hf:f { cls:=.type "list",data:=.seq bU.toArray n }={ cls:=.type "list",data:=.seq its'.toArray n' }) (r:Vals ys its') (hz:ys.length≤sizeLine) (t:Nat) :
  Inv X pins σ (upd H p (.lst ys)) { s with heap:=s.heap.update p f,toks:=t }:=by
 have e:(s.heap.update p f).get? p=some { cls:=.type "list",data:=.seq its'.toArray n' }:=by
  rw [Heap.get?_update_self f ho (by rw [hf]<;>rfl),hf]
 refine I.write (x:=p) (e:=p) (by rw [h];trivial) (.inl rfl) (fun b u hb q=>(Heap.get?_update_other _ _ (Ne.symm hb)).trans q) ⟨_,e⟩ ?_
 exact ⟨hz,its',n',r,e⟩
noncomputable def SV:V→V→V→Hp→(Hp→Prop)→Prop:=fun o i v H Q=>∃p xs k j,o=.ref p∧i=.int k∧H p=some (.lst xs)∧MW xs.length k=some j∧Q (upd H p (.lst (xs.set j v)))
theorem set_list:So X SV:=by
 intro pins s σ H o i v ov iv u Q I ro ri rv h
 obtain ⟨p,xs,k,j,rfl,rfl,hp,hj,q⟩:=h
 cases ro
 obtain ⟨t,rfl⟩:=ri
 obtain ⟨bU,n,r,ho,hz⟩:=I.lst hp
 obtain ⟨h1,h2,h3,h4⟩:=Cr hj
 have hl:=r.length
 have hn:=Cq
 have I':Inv X pins σ (upd H p (.lst (xs.set j v))) { s with heap:=s.heap.update p (Obj.mapSeq (·.setIfInBounds j u)) } :=
  I.Ql hp ho (Gf bU n j u) (r.set rv j) (by rw [cO];exact hz) s.toks
 by_cases h0:0≤k
 ·have hk:k.toNat=j:=by
   rw [seqIndex_of h0 h4] at h1
   exact bC.inj h1
  exact PySem.W.ki_setAt ho h0 (by omega) (by rw [aJ,←hl];exact h4) (by rw [hk];exact ⟨_,I',q⟩)
 ·have hk:(k+(bU.toArray.size:Int)).toNat=j:=by
   rw [seqIndex_neg (by omega) h3] at h1
   rw [aJ,←hl]
   exact bC.inj h1
  exact PySem.W.ki_setBack ho (by omega) (by rw [aJ,←hl];exact h3) (by omega) (by rw [hk];exact ⟨_,I',q⟩)
theorem Ct (lo hi:Option Int) (n:Nat):(sliceBounds lo hi none n).1=((HT.D7 n 0 lo:Nat):Int)∧(sliceBounds lo hi none n).2.1=((HT.D7 n n hi:Nat):Int)∧(sliceBounds lo hi none n).2.2=1:=by
 refine ⟨?_,?_,rfl⟩
 ·cases lo with
  | none=>simp [sliceBounds,HT.D7]
  | some i =>
   simp only [sliceBounds,HT.D7,M9,show (1:Int) > 0 by decide,if_true]
   by_cases h:i < 0
   ·simp only [h,if_true]<;>omega
   ·simp only [h,if_false]<;>omega
 ·cases hi with
  | none=>simp [sliceBounds,HT.D7]
  | some i =>
   simp only [sliceBounds,HT.D7,M9,show (1:Int) > 0 by decide,if_true]
   by_cases h:i < 0
   ·simp only [h,if_true]<;>omega
   ·simp only [h,if_false]<;>omega
theorem Ai (bU:List Value) (lo hi:Option Int):slicePick bU.toArray lo hi none=((bU.drop (HT.D7 bU.length 0 lo)).take (HT.D7 bU.length bU.length hi - HT.D7 bU.length 0 lo)).toArray:=by
 obtain ⟨h1,h2,h3⟩:=Ct lo hi bU.toArray.size
 unfold slicePick
 rw [h1,h2,h3]
 simp only [sliceRange_one,pick_run,aJ]<;>rfl
noncomputable def Wg (K:ab):V→Option Int→Option Int→Hp→VK→Prop:=fun x lo hi H Q=>∃a xs,x=.ref a∧fo K H a xs∧∀p,H p=none→Q (.ref p) (upd H p (.lst (D8 xs lo hi)))
theorem Cu:Yf X (Wg X.K):=by
 intro pins s σ H x v vl vu lo hi sl Q I rx hs pl pu h
 obtain ⟨a,xs,rfl,hx,q⟩:=h
 cases rx
 obtain ⟨bU,r,ht,hz⟩:=I.list hx
 have hlen:=r.length
 refine ⟨"list",_,slot_list_getitem.lookup,ht.isList.typeIs,?_⟩
 refine wpAny_getItem_list_slice ht.isList hs pl pu .none (by simp) ?_ (by rw [aJ]<;>omega)
 rw [Ai,←hlen]
 refine ⟨.ref s.heap.objs.size,_,I.laid (t':=s.toks) (o:=.lst (D8 xs lo hi)) (fun b ob q=>Heap.get?_push_of_some _ q) (aY _) ?_,rfl,q _ (I.gk.fresh (aY _))⟩
 exact ⟨aP (D9 xs lo hi) hz,_,0,(r.drop (HT.D7 xs.length 0 lo)).take (HT.D7 xs.length xs.length hi - HT.D7 xs.length 0 lo),Heap.get?_push_size _ rfl⟩
noncomputable def tO:V→Bool
 | .gH=>true
 | .bl _=>true
 | .int _=>true
 | .str _=>true
 | _=>false
noncomputable def MX:V→V→Bool
 | .gH,.gH=>true
 | .bl a,.bl b=>a == b
 | .bl a,.int b=>(if a then 1 else 0) == b
 | .int a,.bl b=>a == (if b then 1 else 0)
 | .int a,.int b=>a == b
 | .str a,.str b=>a == b
 | _,_=>false
theorem Qm {A:Around} {s:Shared} {y x:V} {u v:Value} (ry:RelV y u) (rx:RelV x v) (fy:tO y=true) (fx:tO x=true):SeqAt.EqAt A s u v (MX y x):=by
 cases y with
 | gH =>
  cases ry
  cases x with
  | gH=>cases rx;exact SeqAt.EqAt.same _
  | bl b=>cases rx;exact SeqAt.EqAt.none_bool b
  | int b=>obtain ⟨t,rfl⟩:=rx;exact SeqAt.EqAt.none_int b t
  | str b=>obtain ⟨t,rfl⟩:=rx;exact SeqAt.EqAt.none_str b t
  | _=>exact absurd (show false=true from fx) aR
 | bl a =>
  cases ry
  cases x with
  | gH=>cases rx;exact SeqAt.EqAt.bool_none a
  | bl b=>cases rx;exact SeqAt.EqAt.bool_bool a b
  | int b=>obtain ⟨t,rfl⟩:=rx;exact SeqAt.EqAt.bool_int a b t
  | str b=>obtain ⟨t,rfl⟩:=rx;exact SeqAt.EqAt.bool_str a b t
  | _=>exact absurd (show false=true from fx) aR
 | int a =>
  obtain ⟨t',rfl⟩:=ry
  cases x with
  | gH=>cases rx;exact SeqAt.EqAt.int_none a t'
  | bl b=>cases rx;exact SeqAt.EqAt.int_bool a t' b
  | int b=>obtain ⟨t,rfl⟩:=rx;exact SeqAt.EqAt.int_int a t' b t
  | str b=>obtain ⟨t,rfl⟩:=rx;exact SeqAt.EqAt.int_str a t' b t
  | _=>exact absurd (show false=true from fx) aR
 | str a =>
  obtain ⟨t',rfl⟩:=ry
  cases x with
  | gH=>cases rx;exact SeqAt.EqAt.str_none a t'
  | bl b=>cases rx;exact SeqAt.EqAt.str_bool a t' b
  | int b=>obtain ⟨t,rfl⟩:=rx;exact SeqAt.EqAt.str_int a t' b t
  | str b=>obtain ⟨t,rfl⟩:=rx;exact SeqAt.EqAt.str_str a t' b t
  | _=>exact absurd (show false=true from fx) aR
 | _=>exact absurd (show false=true from fy) aR
noncomputable def Gg (x:V) (u:Value):Bool:=match u with
 | .none=>MX .gH x
 | .bool b=>MX (.bl b) x
 | .int i _=>MX (.int i) x
 | .str z _=>MX (.str z) x
 | _=>false
theorem KJ {x y:V} {u:Value} (r:RelV y u) (f:tO y=true):Gg x u=MX y x:=by
 cases y with
 | gH=>cases r;rfl
 | bl b=>cases r;rfl
 | int i=>obtain ⟨t,rfl⟩:=r;rfl
 | str z=>obtain ⟨t,rfl⟩:=r;rfl
 | _=>exact absurd (show false=true from f) aR
theorem tP {x:V}:∀{xs:List V} {us:List Value},Vals xs us→xs.all tO=true→us.any (Gg x)=xs.any fun y=>MX y x
 | _,_,.nil,_=>rfl
 | y::xs,u::us,.cons r t,f=>by
  rw [dk,aj] at f
  rw [mi,mi,KJ r f.1,tP t f.2]
theorem qh {A:Around} {s:Shared} {x:V} {v:Value} (rx:RelV x v) (fx:tO x=true):∀{xs:List V} {us:List Value},Vals xs us→xs.all tO=true→∀u∈us,SeqAt.EqAt A s u v (Gg x u)
 | _,_,.nil,_=>fun u hu=>by cases hu
 | y::xs,u::us,.cons r t,f=>fun u' hu=>by
  rw [dk,aj] at f
  rcases aG.mp hu with rfl|hu
  ·rw [KJ r f.1];exact Qm r rx f.1 fx
  ·exact qh rx fx t f.2 u' hu
noncomputable def SW (x:V) (xs:List V):Bool:=xs.any fun y=>MX y x
noncomputable def Wh (K:ab) (neg:Bool):R2:=fun x y H Q=>∃p xs,y=.ref p∧(fo K H p xs∨yc K H p xs)∧tO x=true∧xs.all tO=true∧Q (.bl (if neg then !SW x xs else SW x xs)) H
theorem Jg:kG X (compareOp .In) (Wh X.K false):=by
 intro pins s σ H x y v u Q I rx ry h
 obtain ⟨p,xs,rfl,hq,fx,fs,q⟩:=h
 cases ry
 rcases hq with hq|hq
 ·obtain ⟨bU,r,pl,hz⟩:=I.list hq
  refine SeqAt.in_listAt (Gg x) pl.isList (fun w hw=>qh rx fx r fs w (by simpa using hw)) ⟨.bl _,H,I,rfl,?_⟩
  rw [show bU.toArray.any (Gg x)=bU.any (Gg x) by simp,tP r fs]
  exact q
 ·obtain ⟨bU,r,pl,hz⟩:=I.tuple hq
  refine SeqAt.in_tupleAt (Gg x) pl (fun w hw=>qh rx fx r fs w (by simpa using hw)) ⟨.bl _,H,I,rfl,?_⟩
  rw [show bU.toArray.any (Gg x)=bU.any (Gg x) by simp,tP r fs]
  exact q
theorem Cv:kG X (compareOp .NotIn) (Wh X.K true):=by
 intro pins s σ H x y v u Q I rx ry h
 obtain ⟨p,xs,rfl,hq,fx,fs,q⟩:=h
 cases ry
 rcases hq with hq|hq
 ·obtain ⟨bU,r,pl,hz⟩:=I.list hq
  refine SeqAt.notIn_listAt (Gg x) pl.isList (fun w hw=>qh rx fx r fs w (by simpa using hw)) ⟨.bl _,H,I,rfl,?_⟩
  rw [show bU.toArray.any (Gg x)=bU.any (Gg x) by simp,tP r fs]
  exact q
 ·obtain ⟨bU,r,pl,hz⟩:=I.tuple hq
  refine SeqAt.notIn_tupleAt (Gg x) pl (fun w hw=>qh rx fx r fs w (by simpa using hw)) ⟨.bl _,H,I,rfl,?_⟩
  rw [show bU.toArray.any (Gg x)=bU.any (Gg x) by simp,tP r fs]
  exact q
theorem tQ:tL X (.builtin "len") (fun xs H Q=>∃p ys,xs=[.ref p]∧(fo X.K H p ys∨yc X.K H p ys)∧Q (.int ys.length) H):=by
 intro pins s σ H xs us Q I r h
 obtain ⟨p,ys,rfl,hq,q⟩:=h
 obtain ⟨u,rfl,rx⟩:=vals1 r
 cases rx
 have hn:=Cq
 rcases hq with hq|hq
 ·obtain ⟨bU,r',pl,hz⟩:=I.list hq
  have hlen:=r'.length
  exact Calls.call_len_list pl.isList (by simp only [aJ]<;>omega) ⟨.int ys.length,H,I.tok _,⟨s.toks+1,by rw [aJ,hlen]⟩,q⟩
 ·obtain ⟨bU,r',pl,hz⟩:=I.tuple hq
  have hlen:=r'.length
  exact len_tuple pl (by simp only [aJ]<;>omega) ⟨.int ys.length,H,I.tok _,⟨s.toks+1,by rw [aJ,hlen]⟩,q⟩
theorem iS:tL X (.type "list") (fun xs H Q=>∃p ys,xs=[.ref p]∧(fo X.K H p ys∨yc X.K H p ys)∧∀l,H l=none→Q (.ref l) (upd H l (.lst ys))):=by
 intro pins s σ H xs us Q I r h
 obtain ⟨p,ys,rfl,hq,q⟩:=h
 obtain ⟨u,rfl,rx⟩:=vals1 r
 cases rx
 have fin:∀(bU:List Value),Vals ys bU→ys.length≤sizeLine→∀(h':Heap) (c':Nat),(∀b o',s.heap.get? b=some o'→h'.get? b=some o') →
   h'.get? s.heap.objs.size=some { cls:=.type "list",dict:=none,data:=.seq bU.toArray c',slots:=#[] }→EP X pins σ Q (.ref s.heap.objs.size) { s with heap:=h' }:=fun bU r' hz h' c' kp e =>
  ⟨.ref s.heap.objs.size,_,I.laid (t':=s.toks) kp (aY _) (show jA X.prog X.w _ h' _ (.lst ys) from ⟨hz,bU,c',r',e⟩),rfl,q _ (I.gk.fresh (aY _))⟩
 rcases hq with hq|hq
 ·obtain ⟨bU,r',pl,hz⟩:=I.list hq
  have hlen:=r'.length
  obtain ⟨o,ho,hc,n,hd⟩:=pl.isList
  exact call_list_seq p (.inl rfl) ho hc hd (fun h' c' kp e=>fin bU r' hz h' c' kp e) (by simp only [aJ]<;>omega)
 ·obtain ⟨bU,r',pl,hz⟩:=I.tuple hq
  have hlen:=r'.length
  obtain ⟨o,ho,hc,n,hd⟩:=pl
  exact call_list_seq p (.inr rfl) ho hc hd (fun h' c' kp e=>fin bU r' hz h' c' kp e) (by simp only [aJ]<;>omega)
noncomputable def Wi (K:ab) (T:String) (x:V) (H:Hp):Prop:=match x with
 | .str _=>T = "str"
 | .int _=>T = "int"
 | .ref p=>(T = "list" ∧ ∃xs,fo K H p xs)∨(T = "tuple" ∧ ∃o,K.lookup p=some o∧o.cls=.type "tuple" ∧ o.dict=none) ∨
   (T = "dict" ∧ ((∃ka,H p=some (.dK ka))∨∃ka,H p=some (.dT ka)))∨(T = "set" ∧ ∃S n,H p=some (.set S n))
 | _=>False
theorem KL {pins:List (Addr×Obj)} {σ:St} {H:Hp} {s:Shared} {T:String} {x:V} {v:Value} (I:Inv X pins σ H s) (r:RelV x v) (ty:Wi X.K T x H) :
  s.TypeIs v T∧∀a,v=.ref a→∃ob,s.heap.get? a=some ob∧ob.dict=none:=by
 cases x with
 | str z =>
  obtain ⟨t,rfl⟩:=r
  cases (show T = "str" from ty)
  exact ⟨typeIs_str s z t,fun _ e=>nomatch e⟩
 | int i =>
  obtain ⟨t,rfl⟩:=r
  cases (show T = "int" from ty)
  exact ⟨typeIs_int s i t,fun _ e=>nomatch e⟩
 | ref p =>
  cases r
  rcases ty with ⟨rfl,xs,hq⟩|⟨rfl,o,hk,hc,hd⟩|⟨rfl,hk⟩|⟨rfl,S,n,hk⟩
  ·obtain ⟨bU,_,pl,_⟩:=I.list hq
   refine ⟨pl.isList.typeIs,fun a e=>?_⟩
   cases e
   obtain ⟨o,n,e,c,hd,_⟩:=pl
   exact ⟨o,e,hd⟩
  ·refine ⟨⟨o,I.Kj p o hk,hc⟩,fun a e=>?_⟩
   cases e
   exact ⟨o,I.Kj _ o hk,hd⟩
  ·have z:∃o,s.heap.get? p=some o∧o.ExactDict:=by
    rcases hk with ⟨ka,hk⟩|⟨ka,hk⟩
    ·obtain ⟨_,_,_,_,o,_,_,e,ex,_⟩:=I.gk p _ hk
     exact ⟨o,e,ex⟩
    ·obtain ⟨_,_,_,_,o,_,_,e,ex,_⟩:=I.gk p _ hk
     exact ⟨o,e,ex⟩
   obtain ⟨o,e,ex⟩:=z
   refine ⟨⟨o,e,ex.1⟩,fun a e2=>?_⟩
   cases e2
   exact ⟨o,e,ex.2.1⟩
  ·obtain ⟨o,_,_,_,e,ex,_⟩:=I.gk p _ hk
   refine ⟨⟨o,e,ex.1⟩,fun a e2=>?_⟩
   cases e2
   exact ⟨o,e,ex.2.1⟩
 | _=>exact False.elim ty
noncomputable def Wj (K:ab) (T:String) (r:V→List V→Hp→VK→Prop) (to:TE):TE:=fun σ H Q=>to σ H fun x H1=>Wi K T x H1∧r x [] H1 Q
noncomputable def SX (K:ab) (T:String) (r:V→List V→Hp→VK→Prop) (to:TE) (t:TA):TE:=fun σ H Q=>to σ H fun x H1=>Wi K T x H1∧t σ H1 fun xs H2=>r x xs H2 Q
variable {o e:Expr} {es:List Expr} {to:TE} {t:TA} {name:Str} {apos kh:Pos} {T id:String} {r:V→List V→Hp→VK→Prop}
theorem KN (pa:PlainAttrs T) (slot:Slot T name id) (SY:typeOf (.builtin id)=pure (.type "method_descriptor")) (hm:Vd X id r) (ho:PE X o to)
  (KO:attributeBase o name X.env (eval o X.env)=eval o X.env:=by rfl) (D_:(apos.endLine == kh.line)=true:=by rfl):PE X (.Call (.Attribute o name apos) [] [] kh) (Wj X.K T r to):=by
 intro pins s σ H Q I h
 refine wpAny_Call_method0_late KO D_ (iy (ho pins s σ H _ I h) fun v s1 ⟨x,H1,I1,r1,ty,q1⟩=>?_)
 obtain ⟨h1,h2⟩:=KL I1 r1 ty
 exact ⟨T,id,pa,slot,SY,h1,h2,Calls.callWith_builtin rfl (PySem.evalArgs_none (hm pins s1 σ H1 x [] v [] Q I1 r1 .nil q1))⟩
theorem tR (pa:PlainAttrs T) (slot:Slot T name id) (SY:typeOf (.builtin id)=pure (.type "method_descriptor")) (hm:Vd X id r) (ho:PE X o to) (ha:PA X (e::es) t)
  (KO:attributeBase o name X.env (eval o X.env)=eval o X.env:=by rfl)
  (Wk:((backTo kh (starEach (e::es) X.env)).all (fun x=>!x.1)&&(backToKw kh (keywordEach [] X.env)).all (fun x=>x.1.isSome)
   && decide ((e::es).length+([]:List Keyword).length+(if ([]:List Keyword).isEmpty then 0 else 1) < 30))=true:=by rfl)
  (D_:(apos.endLine == kh.line)=true:=by rfl) (hs:starEach (e::es) X.env=(false,eval e X.env)::starEach es X.env:=by rfl) (Qn:(backTo kh (starEach es X.env)).any (·.1)=false:=by rfl) :
  PE X (.Call (.Attribute o name apos) (e::es) [] kh) (SX X.K T r to t):=by
 intro pins s σ H Q I h
 refine wpAny_Call_method_late KO Wk D_ rfl (iy (ho pins s σ H _ I h) fun v s1 ⟨x,H1,I1,r1,ty,q1⟩=>?_)
 obtain ⟨h1,h2⟩:=KL I1 r1 ty
 refine ⟨T,id,pa,slot,SY,h1,h2,?_⟩
 have hA:=ha kh pins s1 σ H1 _ I1 q1
 rw [hs] at hA ⊢
 refine Calls.callWith_builtin (by show (false||(backTo kh (starEach es X.env)).any (·.1))=false;rw [Qn]<;>rfl) (Calls.evalArgs_plain ?_)
 exact iy hA fun us s2 ⟨vs,H2,I2,r2,q2⟩=>hm pins s2 σ H2 x vs v us Q I2 r1 r2 q2
end
end L2
namespace L2
open PySem PySem.Spec PyProof.Rows
noncomputable def Ve (X:Cx) (id:String) (r:V→List V→Hp→VK→Prop):Prop :=
 ∀(pins:List (Addr×Obj)) (s:Shared) (σ:St) (H:Hp) (x:V) (xs:List V) (v:Value) (us:List Value) (Q:VK),Inv X pins σ H s→RelV x v→Vals xs us→r x xs H Q →
  wpAny (model X.prog X.w) X.A (call (.builtin id) (v::us)) (EP X pins σ Q) X.xe s
theorem Vals.one:∀{x:V} {us:List Value},Vals [x] us→∃u,us=[u]∧RelV x u
 | _,_,.cons r .nil=>⟨_,rfl,r⟩
theorem Vals.zero:∀{us:List Value},Vals [] us→us=[]
 | _,.nil=>rfl
theorem Vals.dropLast {xs:List V} {us:List Value} (h:Vals xs us):Vals xs.dropLast us.dropLast:=by
 induction h with
 | nil=>exact .nil
 | cons r t ih =>
  cases t with
  | nil=>exact .nil
  | cons q t'=>exact .cons r ih
theorem Vals.eraseIdx:∀{xs:List V} {us:List Value} (i:Nat),Vals xs us→Vals (xs.eraseIdx i) (us.eraseIdx i)
 | _,_,_,.nil=>.nil
 | _,_,0,.cons _ t=>t
 | _,_,i+1,.cons r t=>.cons r (Vals.eraseIdx i t)
theorem Vals.reverse {xs:List V} {us:List Value} (h:Vals xs us):Vals xs.reverse us.reverse:=by
 induction h with
 | nil=>exact .nil
 | cons r t ih=>rw [dZ,dZ];exact Vals.append ih (.cons r .nil)
theorem Vals.rep {xs:List V} {us:List Value} (h:Vals xs us):∀k:Nat,Vals (aH k xs).flatten (aH k us).flatten
 | 0=>.nil
 | k+1=>by
  rw [cM,cM,bB,bB]
  exact Vals.append h (Vals.rep h k)
theorem Gh {α:Type} (l:List α):l.eraseIdx (l.length - 1)=l.dropLast:=by
 induction l with
 | nil=>rfl
 | cons a r ih =>
  cases r with
  | nil=>rfl
  | cons b r =>
   have e:(a::b::r).length - 1=((b::r).length - 1)+1:=by
    have h1:(a::b::r).length=r.length+2:=rfl
    have h2:(b::r).length=r.length+1:=rfl
    omega
   rw [e,List.eraseIdx_cons_succ,ih]
   all_goals rfl
theorem Bz {α:Type}:∀(l:List α) (i:Nat),(l.eraseIdx i).length≤l.length
 | [],_=>aY _
 | _::_,0=>Nat.le_succ _
 | _::r,i+1=>Nat.succ_le_succ (Bz r i)
theorem foldl_rep (bU:List Value):∀(k:Nat) (acc:List Value),
  M_ (fun x1 x2=>x1++x2) acc.toArray (aH k bU.toArray)=(acc++(aH k bU).flatten).toArray
 | 0,acc=>by simp
 | k+1,acc=>by
  have e:acc.toArray++bU.toArray=(acc++bU).toArray:=by simp
  have e2:(acc++bU)++(aH k bU).flatten=acc++(aH (k+1) bU).flatten:=by
   rw [cM,bB,de]
  rw [←e2,←foldl_rep bU k (acc++bU),←e,cM,b9]
section
variable {X:Cx} {pins:List (Addr×Obj)} {σ:St} {H:Hp} {s:Shared} {l b:Addr} {xs ys zs:List V}
theorem Inv.ND {bU its':List Value} {n:Nat} {f:Array Value→Array Value} {t':Nat} (I:Inv X pins σ H s) (hH:H l=some (.lst xs))
  (e:s.heap.get? l=some { cls:=.type "list",data:=.seq bU.toArray n }) (hf:f bU.toArray=its'.toArray) (hv:Vals ys its') (hz:ys.length≤sizeLine) :
  Inv X pins σ (upd H l (.lst ys)) { s with heap:=s.heap.update l (Obj.mapSeq f),toks:=t' }:=by
 have q:=PySem.IsL.update e f
 rw [hf] at q
 refine I.write (x:=l) (e:=l) (by rw [hH];exact trivial) (.inl rfl) (fun b' u hb hu=>(Heap.get?_update_other s.heap (Obj.mapSeq f) (Ne.symm hb)).trans hu) ⟨_,q⟩ ?_
 exact ⟨hz,its',_,hv,q⟩
theorem Inv.Qo {bU:List Value} {t':Nat} (I:Inv X pins σ H s) (hv:Vals ys bU) (hz:ys.length≤sizeLine) :
  Inv X pins σ (upd H s.heap.objs.size (.lst ys)) { s with heap:=s.heap.push { cls:=.type "list",data:=.seq bU.toArray },toks:=t' } :=
 I.laid (fun _ _ q=>Heap.get?_push_of_some _ q) (aY _) ⟨hz,bU,0,hv,Heap.get?_push_size _ rfl⟩
theorem Inv.fresh (I:Inv X pins σ H s):H s.heap.objs.size=none:=I.gk.fresh (aY _)
theorem Inv.Ea (I:Inv X pins σ H s) (hH:H l=some (.lst xs)):xs.length≤sizeLine∧∃(bU:List Value) (n:Nat),Vals xs bU∧xs.length=bU.length∧s.heap.get? l=some { cls:=.type "list",data:=.seq bU.toArray n }:=by
 obtain ⟨z,bU,n,r,e⟩:=I.gk l _ hH
 exact ⟨z,bU,n,r,r.length,e⟩
theorem Eb {n:Nat} (h:n≤sizeLine):Builtin.List.listTooLong n=false:=by
 unfold Builtin.List.listTooLong
 exact decide_eq_false (by omega)
end
section
variable {X:Cx}
noncomputable def HE:V→List V→Hp→VK→Prop:=fun x vs H Q=>∃l xs y,x=.ref l∧vs=[y]∧H l=some (.lst xs)∧xs.length < sizeLine∧Q .gH (upd H l (.lst (xs++[y])))
theorem oy:Ve X "list.append" HE:=by
 intro pins s σ H x vs v us Q I rx rv h
 obtain ⟨l,xs,y,rfl,rfl,hH,hz,q⟩:=h
 cases rx
 obtain ⟨u,rfl,ru⟩:=rv.one
 obtain ⟨z,bU,n,r,hl,e⟩:=I.Ea hH
 refine call_meets F.slot_list_append ⟨_,e,rfl⟩ F.entry_list_append (F.args_list_append_2 _ _) (PySem.list_append l bU.toArray n u (by rw [aJ];omega)) ⟨e,?_⟩
 refine ⟨.gH,_,I.ND (its':=bU++[u]) hH e (by simp) (r.append (.cons ru .nil)) ?_,rfl,q⟩
 rw [ax,sv]
 omega
noncomputable def HF:V→List V→Hp→VK→Prop:=fun x vs H Q=>∃l b xs zs,x=.ref l∧vs=[.ref b]∧H l=some (.lst xs)∧H b=some (.lst zs)∧xs.length+zs.length≤sizeLine∧Q .gH (upd H l (.lst (xs++zs)))
theorem uR:Ve X "list.extend" HF:=by
 intro pins s σ H x vs v us Q I rx rv h
 obtain ⟨l,b,xs,zs,rfl,rfl,hH,hB,hz,q⟩:=h
 cases rx
 obtain ⟨u,rfl,ru⟩:=rv.one
 cases ru
 obtain ⟨z,bU,n,r,hl,e⟩:=I.Ea hH
 obtain ⟨z2,yg,n2,r2,Wl,e2⟩:=I.Ea hB
 have hsz:bU.toArray.size+yg.toArray.size≤sizeLine:=by rw [aJ,aJ];omega
 have KP:¬(!bU.toArray.isEmpty&&Builtin.List.listTooLong (bU.toArray.size+yg.toArray.size))=true:=by
  rw [Eb hsz,Bool.and_false]
  exact aR
 refine call_meets F.slot_list_extend ⟨_,e,rfl⟩ F.entry_list_extend (F.args_list_extend_2 _ _)
  (AutoSeq1.list_extend_list_list_0 l bU.toArray n b yg.toArray n2 KP (by rw [aJ];omega) (by omega)) ⟨e,e2,?_⟩
 refine ⟨.gH,_,I.ND (its':=bU++yg) hH e (by simp) (r.append r2) ?_,rfl,q⟩
 rw [ax]
 omega
noncomputable def Wm:V→List V→Hp→VK→Prop:=fun x vs H Q=>∃l xs y,x=.ref l∧vs=[]∧H l=some (.lst xs)∧xs[xs.length - 1]?=some y∧Q y (upd H l (.lst xs.dropLast))
theorem KQ:Ve X "list.pop" Wm:=by
 intro pins s σ H x vs v us Q I rx rv h
 obtain ⟨l,xs,y,rfl,rfl,hH,hy,q⟩:=h
 cases rx
 have Vf:=rv.zero
 subst Vf
 obtain ⟨z,bU,n,r,hl,e⟩:=I.Ea hH
 obtain ⟨u,hu,ru⟩:=r.get hy
 have ZA:bU.toArray[bU.toArray.size - 1]?=some u:=by
  show bU.toArray[bU.length - 1]?=some u
  rw [←Array.getElem?_toList,←hl]
  exact hu
 refine call_meets F.slot_list_pop ⟨_,e,rfl⟩ F.entry_list_pop (F.args_list_pop_1 _) (MeetsSeq.list_pop_last l bU.toArray n u ZA (by rw [aJ];omega)) ⟨e,?_⟩
 refine ⟨y,_,I.ND (its':=bU.dropLast) hH e ?_ r.dropLast ?_,ru,q⟩
 ·show bU.toArray.eraseIdxIfInBounds (bU.toArray.size - 1)=bU.dropLast.toArray
  rw [aJ,z8,Gh]
 ·rw [List.length_dropLast]
  omega
noncomputable def Qp:V→List V→Hp→VK→Prop:=fun x vs H Q=>∃l xs i k y,x=.ref l∧vs=[.int i]∧H l=some (.lst xs)∧-(2 ^ 63)≤i∧i < 2 ^ 63∧seqIndex? i xs.length=some k∧xs[k]?=some y∧Q y (upd H l (.lst (xs.eraseIdx k)))
theorem KR:Ve X "list.pop" Qp:=by
 intro pins s σ H x vs v us Q I rx rv h
 obtain ⟨l,xs,i,k,y,rfl,rfl,hH,h1,h2,hk,hy,q⟩:=h
 cases rx
 obtain ⟨u,rfl,ru⟩:=rv.one
 obtain ⟨t,rfl⟩:=ru
 obtain ⟨z,bU,n,r,hl,e⟩:=I.Ea hH
 obtain ⟨w,hw,SU⟩:=r.get hy
 refine call_meets F.slot_list_pop ⟨_,e,rfl⟩ F.entry_list_pop (F.args_list_pop_2 _ _)
  (MeetsSeq.list_pop_at l bU.toArray n i t k w (fitsIndex_both h1 h2) (by rw [aJ,←hl];exact hk) (by rw [←Array.getElem?_toList];exact hw) (by rw [aJ];omega)) ⟨e,?_⟩
 refine ⟨y,_,I.ND (its':=bU.eraseIdx k) hH e ?_ (r.eraseIdx k) ?_,SU,q⟩
 ·show bU.toArray.eraseIdxIfInBounds k=(bU.eraseIdx k).toArray
  rw [z8]
 ·have:=Bz xs k
  omega
noncomputable def Wn:R2:=fun x y H Q=>∃l b xs zs,x=.ref l∧y=.ref b∧H l=some (.lst xs)∧H b=some (.lst zs)∧xs.length+zs.length≤sizeLine∧∀p,H p=none→Q (.ref p) (upd H p (.lst (xs++zs)))
theorem Cw:kG X (binaryOp .Add) Wn:=by
 intro pins s σ H x y v u Q I rx ry h
 obtain ⟨l,b,xs,zs,rfl,rfl,hH,hB,hz,q⟩:=h
 cases rx
 cases ry
 obtain ⟨z,bU,n,r,hl,e⟩:=I.Ea hH
 obtain ⟨z2,yg,n2,r2,Wl,e2⟩:=I.Ea hB
 refine PySem.P.add_list e e2 ?_ (by rw [aJ,aJ];omega)
 have ea:bU.toArray++yg.toArray=(bU++yg).toArray:=by simp
 rw [ea]
 exact ⟨.ref _,_,I.Qo (t':=s.toks) (r.append r2) (by rw [ax];omega),rfl,q _ I.fresh⟩
noncomputable def Wo:R2:=fun x y H Q=>∃l k xs,x=.ref l∧y=.int k∧H l=some (.lst xs)∧-(2 ^ 63)≤k∧k < 2 ^ 63∧xs.length*k.toNat≤sizeLine ∧
 ∀p,H p=none→Q (.ref p) (upd H p (.lst (aH k.toNat xs).flatten))
theorem len_rep {α:Type} (xs:List α) (k:Nat):(aH k xs).flatten.length=k*xs.length:=by
 induction k with
 | zero=>simp
 | succ k ih=>rw [cM,bB,ax,ih,Nat.succ_mul,r6]
theorem Gi:kG X (binaryOp .Mult) Wo:=by
 intro pins s σ H x y v u Q I rx ry h
 obtain ⟨l,k,xs,rfl,rfl,hH,h1,h2,hz,q⟩:=h
 cases rx
 obtain ⟨t,rfl⟩:=ry
 obtain ⟨z,bU,n,r,hl,e⟩:=I.Ea hH
 have hlen:bU.toArray.size*k.toNat≤sizeLine:=by rw [aJ,←hl];exact hz
 have Wq:¬bU.toArray.size*k.toNat > (2 ^ 63 - 1) / 8:=by
  have:(sizeLine:Nat)≤(2 ^ 63 - 1) / 8:=by decide
  omega
 have Wr:¬(!Builtin.List.listFitsIndex k)=true:=by
  rw [fitsIndex_both h1 h2]
  exact aR
 have KP:¬Builtin.List.listTooLong (bU.toArray.size*k.toNat)=true:=by
  rw [Eb hlen]
  exact aR
 have Ws:M_ (fun x1 x2=>x1++x2) #[] (aH (if bU.toArray.isEmpty=true then 0 else k.toNat) bU.toArray)=(aH k.toNat bU).flatten.toArray:=by
  have f0:∀m:Nat,M_ (fun x1 x2=>x1++x2) #[] (aH m bU.toArray)=(aH m bU).flatten.toArray:=fun m=>by
   have:=foldl_rep bU m []
   rw [fC] at this
   exact this
  rw [f0]
  cases bU with
  | nil=>simp
  | cons a r'=>rw [if_neg (by simp)]
 refine wpAny_binaryOp_repeat_ref (T := "list") (U := "int") (by decide) ⟨_,e,rfl⟩ (fun s'=>typeIs_int s' k t) noFill_list_mul F.fills_int_mul F.slot_int_rmul repeat_list F.slot_int_index.lookup
  (call_meets F.slot_int_rmul (typeIs_int s k t) F.entry_int_rmul (F.args_int_rmul_2 _ _) (int___rmul___int_list k t l bU.toArray n)
   ⟨e,rfl,⟨_,e,rfl⟩,call_meets F.slot_list_mul ⟨_,e,rfl⟩ F.entry_list_mul (F.args_list_mul_2 _ _) (AutoListH.list___mul___list_int_3 l bU.toArray n k t Wr Wq KP) ⟨e,?_⟩⟩)
 rw [Ws]
 exact ⟨.ref _,_,I.Qo (t':=s.toks) (r.rep k.toNat) (by rw [len_rep,e8];exact hz),rfl,q _ I.fresh⟩
end
section
variable {prog:Program} {w:World} {A:Around} {E:Value→Shared→Prop} {s:Shared}
end
section
variable {X:Cx}
end
end L2
namespace L2
open PySem PySem.Spec PyProof.Rows
theorem Vals.ints:∀{ns:List Int} {us:List Value},Vals (ns.map V.int) us→IntsAre us ns
 | [],us,h=>by
  rw [x9] at h
  cases h
  exact IntsAre.nil
 | n::ns,us,h=>by
  rw [aO] at h
  cases h with
  | cons r t =>
   obtain ⟨k,rfl⟩:=r
   exact IntsAre.cons n k (Vals.ints t)
theorem Vals.Wt:∀{bs:List Bool} {us:List Value},Vals (bs.map V.bl) us→us=bs.map Value.bool
 | [],us,h=>by
  rw [x9] at h
  cases h
  rfl
 | b::bs,us,h=>by
  rw [aO] at h
  cases h with
  | cons r t =>
   cases r
   rw [Vals.Wt t,aO]
theorem Vals.Qq {a:Addr} {us:List Value} (r:Vals [V.ref a] us):us=[Value.ref a]:=by
 cases r with
 | cons r t =>
  cases t
  cases r
  rfl
section
variable {prog:Program} {w:World} {A:Around} {E:Value→Shared→Prop} {s:Shared} {l:Addr} {bU:List Value} {ns:List Int} {Q:Value→Shared→Prop}
theorem NF (hh:A.handled=none) (hl:s.heap.IsList l bU.toArray) (hi:IntsAre bU ns)
  (h:∀h' tk t',(∀b o,s.heap.get? b=some o→h'.get? b=some o)→Q (.int ns.sum t') { s with heap:=h',toks:=tk }):wpAny (model prog w) A (call (.builtin "sum") [.ref l]) Q E s:=by
 obtain ⟨xs,e⟩:=hi.allInts.items
 have hn:numsOf (intItems xs).toList=ns:=by rw [←e];exact hi.numsOf
 rw [nums_intItems] at hn
 rw [e] at hl
 refine PySem.sum_intListG hh hl fun h' tk t' hk=>?_
 have:=h h' tk t' hk
 rw [preSum_eq,d7 (by simp),hn];exact this
end
section
variable {X:Cx}
noncomputable def Wu (K:ab):List V→Hp→VK→Prop:=fun vs H Q=>∃(a:Addr) (ns:List Int),vs=[V.ref a]∧fo K H a (ns.map V.int)∧Q (.int ns.sum) H
theorem Qr (hc:X.calm=true):tL X (.builtin "sum") (Wu X.K):=by
 intro pins s σ H vs us Q I r h
 obtain ⟨a,ns,rfl,hs,q⟩:=h
 obtain ⟨bU,rv,hl,_⟩:=I.list hs
 rw [Vals.Qq r]
 exact NF (I.ok.hd hc) hl.isList rv.ints fun h' tk t' hk=>⟨.int _,H,I.kept hk,⟨_,rfl⟩,q⟩
end
section
variable {X:Cx}
end
section
variable {X:Cx}
end
theorem Ec {prog:Program} {w:World} {A:Around} {E:Value→Shared→Prop} {s:Shared} {l:Addr} {items:Array Value} {Q:Value→Shared→Prop} (hl:s.heap.IsList l items)
  (h:∀qe:Shared,qe={ s with heap:=s.heap.push { cls:=.type "list_iterator",data:=.fields #[.ref l,.int 0 0] } } →
   (qe.heap.IsListIter s.heap.objs.size l 0∧qe.heap.IsList l items)→l≠s.heap.objs.size→Q (.ref s.heap.objs.size) qe):wpAny (model prog w) A (pyIter (.ref l)) Q E s:=by
 have D3:l < s.heap.objs.size:=by obtain ⟨_,e,_⟩:=hl;exact Heap.lt_size e
 exact wpAny_pyIter_list hl (h _ rfl ⟨⟨_,Heap.get?_push_size _ rfl,rfl,rfl⟩,hl.push _⟩ (cF D3))
theorem vS {prog:Program} {w:World} {A:Around} {bs:List Bool} {bU:List Value} (e:bU=bs.map Value.bool) :
  TruthOf prog w A (fun i v=>bU.toArray[i]?=some v) (fun i=>bs.getD i false):=fun i v s Q E hv hq=>by
 have Vc:bU[i]?=some v:=by simpa using hv
 rw [e,b8] at Vc
 obtain ⟨b,hb,rfl⟩:=Option.map_eq_some_iff.mp Vc
 have hg:bs.getD i false=b:=by rw [ak,hb]<;>rfl
 have OT:Q (bs.getD i false) s:=hq
 rw [hg] at OT
 exact wpAny_truthy_bool OT
theorem any_range:∀bs:List Bool,(aq bs.length).any (fun i=>bs.getD i false)=bs.any id
 | []=>rfl
 | b::bs=>by
  rw [az,iu,mi,IV,mi,←any_range bs]
  all_goals rfl
theorem all_range:∀bs:List Bool,(aq bs.length).all (fun i=>bs.getD i false)=bs.all id
 | []=>rfl
 | b::bs=>by
  rw [az,iu,dk,x_,dk,←all_range bs]
  all_goals rfl
section
variable {X:Cx}
noncomputable def Wv (K:ab):List V→Hp→VK→Prop:=fun vs H Q=>∃(a:Addr) (bs:List Bool),vs=[V.ref a]∧fo K H a (bs.map V.bl)∧Q (.bl (bs.any id)) H
noncomputable def Ww (K:ab):List V→Hp→VK→Prop:=fun vs H Q=>∃(a:Addr) (bs:List Bool),vs=[V.ref a]∧fo K H a (bs.map V.bl)∧Q (.bl (bs.all id)) H
theorem Qs (hc:X.calm=true):tL X (.builtin "any") (Wv X.K):=by
 intro pins s σ H vs us Q I r h
 obtain ⟨a,bs,rfl,hs,q⟩:=h
 obtain ⟨bU,rv,hl,_⟩:=I.list hs
 rw [Vals.Qq r]
 have hb:=rv.Wt
 refine call_any_walk (Ec hl.isList fun qe e2 st k6=>?_)
 subst e2
 refine ⟨_,_,_,_,_,_,_,rfl,Walks.list (A:=X.A.in1) (I.ok.hd hc) _ a k6 bU.toArray,st,vS hb,fun h' tk hk=>?_⟩
 refine ⟨.bl _,H,I.kept fun b o eo=>hk b o (fun yh=>?_) (Heap.get?_push_of_some _ eo),?_,q⟩
 ·rcases aG.mp yh with e1|yh
  ·exact absurd (e1▸Heap.lt_size eo) (e7 _)
  ·cases yh
 ·show Value.bool _=Value.bool _
  rw [←any_range,hb,aJ,ah]
theorem Qt (hc:X.calm=true):tL X (.builtin "all") (Ww X.K):=by
 intro pins s σ H vs us Q I r h
 obtain ⟨a,bs,rfl,hs,q⟩:=h
 obtain ⟨bU,rv,hl,_⟩:=I.list hs
 rw [Vals.Qq r]
 have hb:=rv.Wt
 refine call_all_walk (Ec hl.isList fun qe e2 st k6=>?_)
 subst e2
 refine ⟨_,_,_,_,_,_,_,rfl,Walks.list (A:=X.A.in1) (I.ok.hd hc) _ a k6 bU.toArray,st,vS hb,fun h' tk hk=>?_⟩
 refine ⟨.bl _,H,I.kept fun b o eo=>hk b o (fun yh=>?_) (Heap.get?_push_of_some _ eo),?_,q⟩
 ·rcases aG.mp yh with e1|yh
  ·exact absurd (e1▸Heap.lt_size eo) (e7 _)
  ·cases yh
 ·show Value.bool _=Value.bool _
  rw [←all_range,hb,aJ,ah]
end
mutual
inductive Dp (K:ab) (H:Hp):V→PyData→Prop
 | gH:Dp K H .gH .none
 | bl (b:Bool):Dp K H (.bl b) (.bool b)
 | int (i:Int):Dp K H (.int i) (.int i)
 | str (x:Str):Dp K H (.str x) (.str x)
 | lst {a:Addr} {xs:List V} {ds:List PyData}:fo K H a xs→yi K H xs ds→Dp K H (.ref a) (.list ds)
 | tup {a:Addr} {xs:List V} {ds:List PyData}:yc K H a xs→yi K H xs ds→Dp K H (.ref a) (.tuple ds)
inductive yi (K:ab) (H:Hp):List V→List PyData→Prop
 | nil:yi K H [] []
 | cons {v:V} {vs:List V} {d:PyData} {ds:List PyData}:Dp K H v d→yi K H vs ds→yi K H (v::vs) (d::ds)
end
section
variable {X:Cx} {pins:List (Addr×Obj)} {σ:St} {H:Hp} {s:Shared}
mutual
theorem Dp.reads (I:Inv X pins σ H s):∀(d:PyData) (v:V) (u:Value),Dp X.K H v d→RelV v u→∃as,Reads s.heap u d as
 | .none,_,_,h,r=>by
  cases h
  cases r
  exact ⟨_,Reads.none⟩
 | .bool b,_,_,h,r=>by
  cases h
  cases r
  exact ⟨_,Reads.bool b⟩
 | .int i,_,_,h,r=>by
  cases h
  obtain ⟨t,rfl⟩:=r
  exact ⟨_,Reads.int i t⟩
 | .str x,_,_,h,r=>by
  cases h
  obtain ⟨t,rfl⟩:=r
  exact ⟨_,Reads.str x t⟩
 | .list ds,_,_,h,r=>by
  cases h with
  | lst hs ha =>
   cases r
   obtain ⟨bU,rv,⟨o,n,ho,hc,_,hd⟩,_⟩:=I.list hs
   obtain ⟨as,hr⟩:=Dp.readsAll I ds _ bU ha rv
   exact ⟨_,Reads.list ho hc hd hr⟩
 | .tuple ds,_,_,h,r=>by
  cases h with
  | tup hs ha =>
   cases r
   obtain ⟨bU,rv,⟨o,ho,hc,n,hd⟩,_⟩:=I.tuple hs
   obtain ⟨as,hr⟩:=Dp.readsAll I ds _ bU ha rv
   exact ⟨_,Reads.tuple ho hc hd hr⟩
 | .dict _,_,_,h,_=>by cases h
theorem Dp.readsAll (I:Inv X pins σ H s):∀(ds:List PyData) (vs:List V) (us:List Value),yi X.K H vs ds→Vals vs us→∃as,ReadsAll s.heap us ds as
 | [],_,_,h,r=>by
  cases h
  cases r
  exact ⟨_,ReadsAll.nil⟩
 | d::ds,_,_,h,r=>by
  cases h with
  | cons h1 h2 =>
   cases r with
   | cons r1 r2 =>
    obtain ⟨as,q1⟩:=Dp.reads I d _ _ h1 r1
    obtain ⟨bs,q2⟩:=Dp.readsAll I ds _ _ h2 r2
    exact ⟨_,ReadsAll.cons q1 q2⟩
end
end
section
variable {X:Cx}
noncomputable def Wx (K:ab):R2:=fun x y H Q=>∃d e,Dp K H x d∧Dp K H y e∧SeqAt.shaped d=true∧SeqAt.shaped e=true∧Q (.bl (PyData.eqv d e)) H
noncomputable def Wz (K:ab):R2:=fun x y H Q=>∃d e,Dp K H x d∧Dp K H y e∧SeqAt.shaped d=true∧SeqAt.shaped e=true∧Q (.bl (!PyData.eqv d e)) H
theorem Qu (hu:X.A.units+64 < cLine):kG X (compareOp .Eq) (Wx X.K):=by
 intro pins s σ H x y v u Q I rx ry h
 obtain ⟨d,e,hd,he,sd,se,q⟩:=h
 obtain ⟨as,r1⟩:=Dp.reads I d x v hd rx
 obtain ⟨bs,r2⟩:=Dp.reads I e y u he ry
 exact SeqAt.compareEq_shaped r1 r2 sd se hu ⟨.bl _,H,I,rfl,q⟩
theorem Qv (hu:X.A.units+64 < cLine):kG X (compareOp .NotEq) (Wz X.K):=by
 intro pins s σ H x y v u Q I rx ry h
 obtain ⟨d,e,hd,he,sd,se,q⟩:=h
 obtain ⟨as,r1⟩:=Dp.reads I d x v hd rx
 obtain ⟨bs,r2⟩:=Dp.reads I e y u he ry
 exact SeqAt.compareNe_shaped r1 r2 sd se hu ⟨.bl _,H,I,rfl,q⟩
end
end L2
namespace L2
open PySem PySem.Spec PyProof.Rows
noncomputable abbrev KU (h:Heap) (c:Addr) (v:Option Value):Prop:=h.IsCell c v
noncomputable def Qw (scope sc:Scope):Scope :=
 { scope with names:=scope.names.map fun (n,k)=>if (k == .free&&sc.kind == .function&&sc.names.lookup n == some .cell) then (n,.cell) else (n,k) }
noncomputable def eu (cells:List (Str×Addr)):List (Str×NameKind)→List (Str×Addr)→List (Str×Addr)
 | [],acc=>acc
 | (n,k)::r,acc=>if k == .free then eu cells r ((n,(cells.lookup n).getD 0)::acc) else eu cells r acc
theorem tS (env:Env) (f:Str×NameKind→List (Str×Addr)→Sem (ForInStep (List (Str×Addr))))
  (hf:∀n k c,f (n,k) c=if k == .free then (do let a ←cellOf env n;pure (.yield ((n,a)::c))) else pure (.yield c)) :
  ∀(names:List (Str×NameKind)) (acc:List (Str×Addr)),(∀y∈names,y.2=.free→∃c,env.cells.lookup y.1=some c)→forIn names acc f=pure (eu env.cells names acc)
 | [],acc,_=>by rw [List.forIn_nil];rfl
 | (n,k)::r,acc,h=>by
  rw [List.forIn_cons,hf]
  have ih:=fun acc=>tS env f hf r acc fun y hy=>h y (bu _ hy)
  unfold eu
  by_cases hk:(k == NameKind.free)=true
  ·rw [if_pos hk,if_pos hk]
   obtain ⟨c,hc⟩:=h (n,k) cg (by simpa using hk)
   have e:cellOf env n=pure c:=by unfold cellOf;rw [hc]
   rw [e]
   have e2:(env.cells.lookup n).getD 0=c:=by rw [hc];rfl
   rw [e2]
   exact ih _
  ·rw [if_neg hk,if_neg hk]
   exact ih _
theorem Gj {scope:Scope} {env:Env} (h:∀y∈scope.names,y.2=.free→∃c,env.cells.lookup y.1=some c):closureFor scope env=pure (eu env.cells scope.names []):=by
 simp only [closureFor]
 rw [tS env _ (fun n k c=>rfl) scope.names [] h]
 rfl
theorem mem_lookup {α:Type}:∀{l:List (Str×α)} {n:Str} {c:α},(n,c)∈l→∃c',l.lookup n=some c'
 | (k,v)::r,n,c,h=>by
  rw [cQ]
  cases hb:n == k with
  | true=>exact ⟨_,rfl⟩
  | false =>
   rcases aG.mp h with e|h
   ·cases e;simp at hb
   ·exact mem_lookup h
theorem mY {cells:List (Str×Addr)}:∀{names:List (Str×NameKind)} {acc:List (Str×Addr)} {n:Str} {c:Addr},(n,c)∈eu cells names acc→(n,c)∈acc∨((n,.free)∈names∧c=(cells.lookup n).getD 0)
 | [],_,_,_,h=>.inl h
 | (m,k)::r,acc,n,c,h=>by
  unfold eu at h
  split at h
  ·rename_i hk
   have hk:k=.free:=by simpa using hk
   rcases mY h with h|⟨h1,h2⟩
   ·rcases aG.mp h with e|h
    ·cases e;exact .inr ⟨hk▸cg,rfl⟩
    ·exact .inl h
   ·exact .inr ⟨bu _ h1,h2⟩
  ·rcases mY h with h|⟨h1,h2⟩
   ·exact .inl h
   ·exact .inr ⟨bu _ h1,h2⟩
theorem qi {cells:List (Str×Addr)}:∀{names:List (Str×NameKind)} {acc:List (Str×Addr)} {p:Str×Addr},p∈acc→p∈eu cells names acc
 | [],_,_,h=>h
 | (m,k)::r,acc,p,h=>by
  unfold eu
  split
  ·exact qi (bu _ h)
  ·exact qi h
theorem qj {cells:List (Str×Addr)}:∀{names:List (Str×NameKind)} {acc:List (Str×Addr)} {n:Str},(n,.free)∈names→(n,(cells.lookup n).getD 0)∈eu cells names acc
 | (m,k)::r,acc,n,h=>by
  unfold eu
  rcases aG.mp h with e|h
  ·cases e
   exact qi cg
  ·split
   ·exact qj h
   ·exact qj h
theorem oz:∀{names:List (Str×NameKind)} {h:Heap} {acc:List (Str×Addr)} {x:Str} {c:Addr},(x,c)∈cellsFrom h.objs.size names acc →
  (x,c)∈acc∨((x,.cell)∈names∧h.objs.size≤c∧KU (pushCells h names) c none)
 | [],_,_,_,_,h=>.inl h
 | (n,k)::r,h,acc,x,c,hm=>by
  unfold cellsFrom at hm
  unfold pushCells
  split at hm
  ·rename_i hk
   rw [if_pos hk]
   have hk:k=.cell:=by simpa using hk
   rw [←Heap.size_push h { cls:=.type "cell",data:=.cell none }] at hm
   rcases oz hm with hm|⟨h1,h2,h3⟩
   ·rcases aG.mp hm with e|hm
    ·cases e
     exact .inr ⟨hk▸cg,aY _,_,pushCells_keeps r _ _ _ (Heap.get?_push_size _ rfl),rfl⟩
    ·exact .inl hm
   ·rw [Heap.size_push] at h2
    exact .inr ⟨bu _ h1,pT h2,h3⟩
  ·rename_i hk
   rw [if_neg hk]
   rcases oz hm with hm|⟨h1,h2,h3⟩
   ·exact .inl hm
   ·exact .inr ⟨bu _ h1,h2,h3⟩
theorem q_:∀{names:List (Str×NameKind)} {n:Nat} {acc:List (Str×Addr)} {p:Str×Addr},p∈acc→p∈cellsFrom n names acc
 | [],_,_,_,h=>h
 | (m,k)::r,n,acc,p,h=>by
  unfold cellsFrom
  split
  ·exact q_ (bu _ h)
  ·exact q_ h
theorem uS:∀{names:List (Str×NameKind)} {n:Nat} {acc:List (Str×Addr)} {x:Str},(x,.cell)∈names→∃c,(x,c)∈cellsFrom n names acc
 | (m,k)::r,n,acc,x,h=>by
  unfold cellsFrom
  rcases aG.mp h with e|h
  ·cases e
   exact ⟨n,q_ cg⟩
  ·split
   ·exact uS h
   ·exact uS h
theorem uT:∀{names:List (Str×NameKind)} {h:Heap} {acc:List (Str×Addr)} {x y:Str} {c:Addr},(∀p∈acc,p.2 < h.objs.size)→(∀x y c,(x,c)∈acc→(y,c)∈acc→x=y) →
  (x,c)∈cellsFrom h.objs.size names acc→(y,c)∈cellsFrom h.objs.size names acc→x=y
 | [],_,_,_,_,_,_,hi,h1,h2=>hi _ _ _ h1 h2
 | (n,k)::r,h,acc,x,y,c,hl,hi,h1,h2=>by
  unfold cellsFrom at h1 h2
  split at h1
  ·rename_i hk
   rw [if_pos hk] at h2
   rw [←Heap.size_push h { cls:=.type "cell",data:=.cell none }] at h1 h2
   refine uT (h:=h.push _) (fun p hp=>?_) (fun x y c a b=>?_) h1 h2
   ·rw [Heap.size_push]
    rcases aG.mp hp with rfl|hp
    ·exact q0 _
    ·exact z9 (hl p hp)
   ·rcases aG.mp a with e|a<;>rcases aG.mp b with e'|b
    ·cases e;cases e';rfl
    ·cases e;exact absurd (hl _ b) (e7 _)
    ·cases e';exact absurd (hl _ a) (e7 _)
    ·exact hi _ _ _ a b
  ·rename_i hk
   rw [if_neg hk] at h2
   exact uT hl hi h1 h2
theorem Ed {M:Model} {A:Around} {E:Value→Shared→Prop} {s:Shared} {scope:Scope} {globals:Addr} {closure:List (Str×Addr)} {qual:Str} {func:Option Addr} {code:Value} {around:Env} {builtins:Addr} {Q:Env→Shared→Prop}
  (h:Q (newEnv scope s.heap.objs.size globals (cellsFrom (s.heap.objs.size+1) scope.names closure) qual func code (some around) builtins)
   { s with heap:=pushCells (s.heap.push { cls:=.type "dict",data:=.dict #[] }) scope.names }) :
  wpAny M A (newFunctionEnv scope globals closure [] qual func code (some around) builtins) Q E s:=by
 simp only [newFunctionEnv,Option.isSome_some,if_true]
 refine wpAny_bind (wpAny_alloc ?_)
 refine wpAny_bind (wpAny_layCells _ (fun n k c=>rfl) scope.names closure _ _ ?_)
 rw [show ({ s with heap:=s.heap.push { cls:=.type "dict",data:=.dict #[] } }:Shared).heap.objs.size=s.heap.objs.size+1 from Heap.size_push ..]
 rw [List.forIn_nil]
 exact wpAny_bind (wpAny_pure (wpAny_pure h))
theorem qk {sc:Scope}:∀{names:List (Str×NameKind)} {x:Str} {k:NameKind},
  (names.map fun (n,k)=>if (k == NameKind.free&&sc.kind == .function&&sc.names.lookup n == some .cell) then (n,NameKind.cell) else (n,k)).lookup x=some k →
  ∃k',names.lookup x=some k'∧(k=k'∨(k'=.free∧k=.cell))
 | [],_,_,h=>by simp at h
 | (n,Aj)::r,x,k,h=>by
  have ih:=@qk sc r x k
  have h':je x ((if (Aj == NameKind.free&&sc.kind == .function&&sc.names.lookup n == some .cell)=true then (n,NameKind.cell) else (n,Aj))::(r.map _))=some k:=h
  cases hx:x == n with
  | true =>
   simp only [cQ,hx]
   by_cases hc:(Aj == NameKind.free&&sc.kind == .function&&sc.names.lookup n == some .cell)=true
   ·rw [if_pos hc] at h'
    simp only [cQ,hx] at h'
    cases h'
    simp only [aj,beq_iff_eq] at hc
    exact ⟨Aj,rfl,.inr ⟨hc.1.1,rfl⟩⟩
   ·rw [if_neg hc] at h'
    simp only [cQ,hx] at h'
    cases h'
    exact ⟨_,rfl,.inl rfl⟩
  | false =>
   simp only [cQ,hx]
   by_cases hc:(Aj == NameKind.free&&sc.kind == .function&&sc.names.lookup n == some .cell)=true
   ·rw [if_pos hc] at h'
    simp only [cQ,hx] at h'
    exact ih h'
   ·rw [if_neg hc] at h'
    simp only [cQ,hx] at h'
    exact ih h'
theorem ki {sc:Scope}:∀{names:List (Str×NameKind)} {x:Str} {k:NameKind},k≠.free→names.lookup x=some k →
  (names.map fun (n,k)=>if (k == NameKind.free&&sc.kind == .function&&sc.names.lookup n == some .cell) then (n,NameKind.cell) else (n,k)).lookup x=some k
 | [],_,_,_,h=>by simp at h
 | (n,Aj)::r,x,k,hk,h=>by
  have ih:=@ki sc r x k hk
  show je x ((if (Aj == NameKind.free&&sc.kind == .function&&sc.names.lookup n == some .cell)=true then (n,NameKind.cell) else (n,Aj))::(r.map _))=some k
  cases hx:x == n with
  | true =>
   simp only [cQ,hx] at h
   cases h
   have:¬(Aj == NameKind.free&&sc.kind == .function&&sc.names.lookup n == some .cell)=true:=by simp [hk]
   rw [if_neg this]
   simp only [cQ,hx]
  | false =>
   simp only [cQ,hx] at h
   by_cases hc:(Aj == NameKind.free&&sc.kind == .function&&sc.names.lookup n == some .cell)=true
   ·rw [if_pos hc];simp only [cQ,hx];exact ih h
   ·rw [if_neg hc];simp only [cQ,hx];exact ih h
structure Ee (N:List Str) (sc scope:Scope) (own:List (Str×Nat)):Prop where
 kind:scope.kind=.function
 uniq:∀y∈scope.names,scope.names.lookup y.1=some y.2
 ix:∀p∈own,N[p.2]?=some p.1
 free:∀y∈scope.names,y.2=.free→sc.names.lookup y.1=some .cell∨sc.names.lookup y.1=some .free
 own:∀y∈scope.names,y.2=.local∨y.2=.cell→y.1∈own.map (·.1)∨y.1 ∉ N
noncomputable def wipe (σ:St):List Nat→St
 | []=>σ
 | v::vs=>(wipe σ vs).set v none
theorem iC (σ:St):∀vs:List Nat,(wipe σ vs).length=σ.length
 | []=>rfl
 | v::vs=>by unfold wipe;rw [cO,iC σ vs]
theorem uU {σ:St} {i:Nat} {x:V}:∀{vs:List Nat},(wipe σ vs)[i]?=some (some x)→σ[i]?=some (some x)∧i ∉ vs
 | [],h=>⟨h,by simp⟩
 | v::vs,h=>by
  unfold wipe at h
  by_cases hi:v=i
  ·subst hi
   by_cases hv:v < (wipe σ vs).length
   ·rw [b6 hv] at h;cases h
   ·rw [b0 (by simpa using hv)] at h;cases h
  ·rw [bo hi] at h
   obtain ⟨h1,h2⟩:=uU h
   exact ⟨h1,by simp only [aG,not_or];exact ⟨fun e=>hi e.symm,h2⟩⟩
noncomputable abbrev Cx.rM (X:Cx) (s:Shared) (H:Hp) (scope:Scope) (jF:Env) (fp:List Addr):Cx:={ X with Bt:=s,R_:=H,env:=jF,outer:=X.stack,ex:=fp,fn:=fun x=>scope.names.lookup x == some .cell,pn:=[],xe:=fun _ _=>False }
section
variable {X:Cx} {pins:List (Addr×Obj)} {σ:St} {H:Hp} {s:Shared}
theorem Ef {scope:Scope} {own:List (Str×Nat)} {fp:List Addr} (I:Inv X pins σ H s) (ok:Ee X.N X.env.scope scope own) (hN:X.N.Nodup) (RT:∀b∈fp,uM X pins H b∧b < s.heap.objs.size) :
  Inv (X.rM s H scope (compEnvC scope (cellsFrom (s.heap.objs.size+1) scope.names (eu X.env.cells scope.names [])) s.heap.objs.size X.env) fp) [] (wipe σ (own.map (·.2))) H { s with heap:=pushCells (s.heap.push { cls:=.type "dict",data:=.dict #[] }) scope.names }:=by
 have vR:∀y∈scope.names,y.2=.free→∃c,X.env.cells.lookup y.1=some c:=fun y hy e=>by
  rcases ok.free y hy e with k|k
  ·exact I.ok.has _ (.inl k)
  ·exact I.ok.has _ (.inr k)
 generalize Eg:compEnvC scope (cellsFrom (s.heap.objs.size+1) scope.names (eu X.env.cells scope.names [])) s.heap.objs.size X.env=jF
 have kp:∀b o,s.heap.get? b=some o→(pushCells (s.heap.push { cls:=.type "dict",data:=.dict #[] }) scope.names).get? b=some o:=fun b o e=>pushCells_keeps _ _ _ _ (Heap.get?_push_of_some _ e)
 have hL:jF.locals=s.heap.objs.size:=by rw [←Eg];rfl
 have NG:jF.cells=cellsFrom (s.heap.objs.size+1) scope.names (eu X.env.cells scope.names []):=by rw [←Eg];rfl
 have WA:jF.scope=Qw scope X.env.scope:=by rw [←Eg];rfl
 rw [←Heap.size_push s.heap { cls:=.type "dict",data:=.dict #[] }] at NG
 have cm:∀{y c},(y,c)∈eu X.env.cells scope.names []→X.env.cells.lookup y=some c∧c < s.heap.objs.size:=fun {y c} hm=>by
  rcases mY hm with hm|⟨h1,rfl⟩
  ·cases hm
  ·obtain ⟨c,hc⟩:=vR _ h1 rfl
   rw [hc]
   obtain ⟨w,z⟩:=I.cell _ _ hc
   exact ⟨rfl,z.lt⟩
 have mem:∀{y c},jF.cells.lookup y=some c→(X.env.cells.lookup y=some c∧c < s.heap.objs.size)∨(s.heap.objs.size+1≤c∧KU (pushCells (s.heap.push { cls:=.type "dict",data:=.dict #[] }) scope.names) c none):=fun {y c} e=>by
  rw [NG] at e
  rcases oz (PySem.mem_of_lookup e) with hm|⟨_,h2,h3⟩
  ·exact .inl (cm hm)
  ·rw [Heap.size_push] at h2;exact .inr ⟨h2,h3⟩
 have look:∀{y},scope.names.lookup y=some .free→∃c,jF.cells.lookup y=some c∧X.env.cells.lookup y=some c:=fun {y} hl=>by
  have hy:(y,NameKind.free)∈scope.names:=PySem.mem_of_lookup hl
  obtain ⟨c',e'⟩:=mem_lookup (q_ (names:=scope.names) (n:=(s.heap.push { cls:=.type "dict",data:=.dict #[] }).objs.size) (qj (cells:=X.env.cells) (acc:=[]) hy))
  rw [←NG] at e'
  refine ⟨c',e',?_⟩
  rw [NG] at e'
  rcases oz (PySem.mem_of_lookup e') with hm|⟨h1,_,_⟩
  ·exact (cm hm).1
  ·have:=ok.uniq _ h1
   rw [hl] at this;cases this
 have DQ:(X.rM s H scope jF fp).Ok:=by
  refine ⟨I.ok.mod,by show jF.scope.kind=_;rw [WA];exact ok.kind,by show jF.globals=_;rw [←Eg];exact I.ok.glob,by show jF.builtins=_;rw [←Eg];exact I.ok.blt,by show s.heap.objs.size≤jF.locals;rw [hL];exact aY _,
   fun y z c e1 e2=>?_,fun y hy=>?_,fun y c z e=>?_,I.ok.hd,I.ok.frames,.inl rfl,fun b hb=>⟨?_,fun y c e z=>?_⟩,I.bs,aP I.ok.Kg I.sz,fun b o e hb=>?_,fun b hb z=>?_,I.stack,I.Hm⟩
  ·have e1:jF.cells.lookup y=some c:=e1
   have e2:jF.cells.lookup z=some c:=e2
   rw [NG] at e1 e2
   refine uT (fun p hp=>?_) (fun y z c a b=>I.ok.inj y z c (cm a).1 (cm b).1) (PySem.mem_of_lookup e1) (PySem.mem_of_lookup e2)
   rw [Heap.size_push]
   exact z9 (cm (y:=p.1) (c:=p.2) hp).2
  ·show ∃c,jF.cells.lookup y=some c
   have key:∀k,jF.kindOf y=some k→(k=.cell∨k=.free)→∃c,jF.cells.lookup y=some c:=fun k hk WB=>by
    unfold Env.kindOf at hk
    rw [WA] at hk
    obtain ⟨k',e,r⟩:=qk hk
    have:k'=.cell∨k'=.free:=by
     rcases r with rfl|⟨rfl,_⟩
     ·exact WB
     ·exact .inr rfl
    rcases this with rfl|rfl
    ·obtain ⟨c,hm⟩:=uS (n:=(s.heap.push { cls:=.type "dict",data:=.dict #[] }).objs.size) (acc:=eu X.env.cells scope.names []) (PySem.mem_of_lookup e)
     obtain ⟨c',e'⟩:=mem_lookup hm
     exact ⟨c',by rw [NG];exact e'⟩
    ·obtain ⟨c,h1,_⟩:=look e
     exact ⟨c,h1⟩
   rcases hy with hy|hy
   ·exact key _ hy (.inl rfl)
   ·exact key _ hy (.inr rfl)
  ·have z:(scope.names.lookup y == some NameKind.cell)=true:=z
   have z:scope.names.lookup y=some .cell:=by simpa using z
   have e:jF.cells.lookup y=some c:=e
   rw [NG] at e
   rcases oz (PySem.mem_of_lookup e) with hm|⟨_,h2,_⟩
   ·rcases mY hm with hm|⟨h1,_⟩
    ·cases hm
    ·have q:=ok.uniq _ h1
     rw [z] at q;cases q
   ·rw [Heap.size_push] at h2
    exact pT h2
  ·show b≠jF.locals
   rw [hL];exact cF (RT b hb).2
  ·have e:jF.cells.lookup y=some c:=e
   rcases mem e with ⟨h1,_⟩|⟨h1,_⟩
   ·exact (RT b hb).1.2.2.2.2.1 y c h1 z
   ·have h2:s.heap.objs.size+1≤b:=by rw [←z];exact h1
    exact absurd (bE (RT b hb).2 (pT h2)) (e7 _)
  ·rcases (RT b hb).1.2.2.2.1 with z|z
   ·exact I.ok.Kh b o e z
   ·exact absurd (bE (Heap.lt_size e) (aP I.ok.Kg z)) (e7 _)
  ·rcases aG.mp (I.FY b z) with z|z
   ·exact (RT b hb).1.2.1 z
   ·exact (RT b hb).1.2.2.1 z
 refine ⟨DQ,rfl,I.bare,Un.kept kp,⟨fun _=>none,?_,fun i y av e1 e2 e3=>?_⟩,fun y c e=>?_,?_,fun y c e=>?_,fun p hp=>?_,I.gk.kept kp,by rw [iC];exact I.len⟩
 ·show Heap.Ns _ jF.locals _
  rw [hL]
  exact Heap.Ns.keeps (Heap.Ns.new ..) fun b o e=>pushCells_keeps _ _ _ _ e
 ·obtain ⟨e2,k6⟩:=uU e2
  have RU:scope.names.lookup y=some .free∧(jF.kindOf y=some .cell∨jF.kindOf y=some .free):=by
   have key:∀k,jF.scope.names.lookup y=some k→k=.local∨k=.cell∨k=.free→scope.names.lookup y=some .free∧(jF.kindOf y=some .cell∨jF.kindOf y=some .free):=fun k hk WB=>by
    have Yg:=hk
    rw [WA] at hk
    obtain ⟨k',e,r⟩:=qk hk
    have no:¬(k'=.local∨k'=.cell):=fun hh=>by
     rcases ok.own _ (PySem.mem_of_lookup e) hh with e'|e'
     ·obtain ⟨p,hp,ZC⟩:=bf.mp e'
      have e3:=ok.ix p hp
      have:p.1=y:=ZC
      rw [this] at e3
      exact k6 (bf.mpr ⟨p,hp,ya hN e3 e1⟩)
     ·exact e' (b7 e1)
    rcases r with rfl|⟨rfl,rfl⟩
    ·rcases WB with rfl|rfl|rfl
     ·exact absurd (.inl rfl) no
     ·exact absurd (.inr rfl) no
     ·exact ⟨e,.inr Yg⟩
    ·exact ⟨e,.inl Yg⟩
   have e3:OM jF.scope y:=e3
   rcases e3 with e3|e3|e3
   ·exact key _ e3 (.inl rfl)
   ·exact key _ e3 (.inr (.inl rfl))
   ·exact key _ e3 (.inr (.inr rfl))
  obtain ⟨m,hn,hl⟩:=I.loc
  have WC:OM X.env.scope y:=(ok.free _ (PySem.mem_of_lookup RU.1) rfl).elim (fun k=>.inr (.inl k)) (fun k=>.inr (.inr k))
  obtain ⟨w,r,q⟩:=hl i y av e1 e2 WC
  refine ⟨w,r,.inr ⟨RU.2,?_⟩⟩
  obtain ⟨c,h1,h2⟩:=look RU.1
  rcases q with ⟨k,_⟩|⟨_,c',e',z⟩
  ·have k:X.env.scope.names.lookup y=some .local:=k
   rcases ok.free _ (PySem.mem_of_lookup RU.1) rfl with k'|k'<;>rw [show X.env.scope.names.lookup y=_ from k'] at k<;>cases k
  ·rw [h2] at e';cases e'
   exact ⟨c,h1,z.keeps kp⟩
 ·have e:jF.cells.lookup y=some c:=e
  rcases mem e with ⟨h1,_⟩|⟨_,z⟩
  ·obtain ⟨w,z⟩:=I.cell y c h1
   exact ⟨w,z.keeps kp⟩
  ·exact ⟨_,z⟩
 ·show H jF.locals=none
  rw [hL];exact I.gk.fresh (aY _)
 ·have e:jF.cells.lookup y=some c:=e
  rcases mem e with ⟨h1,_⟩|⟨h1,_⟩
  ·exact I.qd y c h1
  ·exact I.gk.fresh (pT h1)
 ·exact absurd (show p∈([]:List (Addr×Obj))++[] from hp) (by simp)
theorem Qx {E:Value→Shared→Prop} {D:Addr} {xs:List V} {y:V} {v:Value} {Q:Value→Shared→Prop} (I:Inv X pins σ H s) (hD:H D=some (.lst xs)) (hz:xs.length < sizeLine) (r:RelV y v)
  (h:∀s',Inv X pins σ (upd H D (.lst (xs++[y]))) s'→Q .none s'):wpAny (model X.prog X.w) X.A (call (.builtin "list.append") [.ref D,v]) Q E s:=by
 obtain ⟨WD,bU,n,ri,e⟩:=I.gk D _ hD
 have hl:=ri.length
 refine append_at (hsz:=by rw [aJ];omega) e fun h' sb MR=>?_
 refine h { s with heap:=h' } (I.write (t':=s.toks) (by rw [hD];trivial) (.inl rfl) (fun b u hb q=>(sb.2 b hb).trans q) ⟨_,MR⟩ ⟨by rw [ax];exact hz,bU++[v],n+1,ri.append (.cons r .nil),?_⟩)
 rw [MR]
 simp
noncomputable def NH (X:Cx) (ifs:List Expr) (t:TT):Prop :=
 ∀(pins:List (Addr×Obj)) (s:Shared) (σ:St) (H:Hp) (Q:Bool→Hp→Prop),Inv X pins σ H s→t σ H Q →
  wpAny (model X.prog X.w) X.A (forIn ifs true fun c r=>if r=true then do let ok ←isTrue c X.env (eval c X.env);pure (ForInStep.yield ok) else pure (ForInStep.yield r)) (TP X pins σ Q) X.xe s
noncomputable def WE:TT:=fun _ H Q=>Q true H
theorem NI:NH X [] WE:=fun _ _ _ H _ I h=>wpAny_tests_nil ⟨H,I,h⟩
theorem NJ {c:Expr} {t:TT} (h:PT X c t):NH X [c] t:=fun pins s σ H Q I hw=>wpAny_tests_one (h pins s σ H Q I hw)
end
theorem Jh {α:Type} {t:Sem α} {Q Q':α→Shared→Prop} {M:Model} {A:Around} {E:Value→Shared→Prop} {s:Shared} (h:wpAny M A t Q (fun _ _=>False) s) (hQ:∀a s,Q a s→Q' a s):wpAny M A t Q' E s:=wpAny_mono h hQ fun _ _ z=>False.elim z
theorem Cy {prog:Program} {w:World} {A:Around} {R:Result→Shared→Prop} {s:Shared} {elt target iter:Expr} {ifs:List Expr} {scope:Scope} {pos:Pos} {it acc:Value} {env:Env} (I:Nat→Shared→Prop)
  (turn:∀n s,I n s→wpAny (model prog w) A (pyNext it) (fun r fQ=>match r with
   | none=>R (.ok .next) fQ
   | some v=>wpAny (model prog w) A (letOwnedTupleGo target it v) (fun _ OW=>wpAny (model prog w) A (assign target env v) (fun _ qe =>
     wpAny (model prog w) A (forIn ifs true fun c r=>if r=true then do let ok ←isTrue c env (eval c env);pure (ForInStep.yield ok) else pure (ForInStep.yield r)) (fun ok Ks =>
      if ok=true then wpAny (model prog w) A (eval elt env) (fun x S0 =>
       wpAny (model prog w) A (call (.builtin "list.append") [acc,x]) (fun _ S4=>∃m,m < n∧I m S4) (notedBy (model prog w) A env fun e s'=>R (.error e) s') S0) (notedBy (model prog w) A env fun e s'=>R (.error e) s') Ks
      else ∃m,m < n∧I m Ks) (notedBy (model prog w) A env fun e s'=>R (.error e) s') qe) (notedBy (model prog w) A env fun e s'=>R (.error e) s') OW) (notedBy (model prog w) A env fun e s'=>R (.error e) s') fQ) (notedBy (model prog w) A env fun e s'=>R (.error e) s') s)
  (n:Nat) (h:I n s) :
  codeAny (model prog w) A (.compLoop (.ListComp elt [⟨target,iter,ifs,0⟩] scope pos) 0 it acc env) R s:=by
 refine codeAny_loop rfl I (fun n s hI=>?_) n h
 show wpAny _ A ((compTurn (.ListComp elt [⟨target,iter,ifs,0⟩] scope pos) 0 it acc env).onRaise (fun x=>do noteFrame x env;theTreesLotGoes x)) _ _ s
 refine wpAny_noted ?_
 rw [compTurn_list]
 refine wpAny_bind (wpAny_standAt (wpAny_bind (wpAny_mono (turn n s hI) (fun r fQ NK=>?_) fun _ _ h'=>h')))
 cases r with
 | none=>exact wpAny_pure NK
 | some v =>
  refine wpAny_bind (wpAny_mono NK (fun _ OW S7=>?_) fun _ _ h'=>h')
  refine wpAny_bind (wpAny_mono S7 (fun _ qe WG=>wpAny_bind (wpAny_mono WG (fun ok Ks S8=>?_) fun _ _ h'=>h')) fun _ _ h'=>h')
  cases ok with
  | false=>exact wpAny_pure ⟨rfl,S8⟩
  | true =>
   exact wpAny_bind (wpAny_bind (wpAny_mono S8 (fun x S0 WH=>wpAny_bind (wpAny_mono WH (fun _ S4 WI=>wpAny_pure (wpAny_pure ⟨rfl,WI⟩)) fun _ _ h'=>h')) fun _ _ h'=>h'))
section
variable {X:Cx}
noncomputable def OX (wi:TI) (g:TG) (tt:TT) (te:TE) (vs:List Nat):TE:=fun σ H Q=>wi σ H fun J H1=>∀D,H1 D=none→∃W:Nat→Nat→Hp→Prop,(∃m,W 0 m (upd H1 D (.lst [])))∧∀i m H,W i m H →
 (J.stop i H∧Q (.ref D) H)∨(J.go i H∧∃Nx:Hp→Prop,(∀H',Nx H'→∃m',m' < m∧W (i+1) m' H')∧∀x H',J.IX i H x H'→g x (wipe σ vs) H' fun MS H2=>wipe MS vs=wipe σ vs∧tt MS H2 fun b H3 =>
  if b=true then te MS H3 fun y H4=>∃acc,H4 D=some (.lst acc)∧acc.length < sizeLine∧Nx (upd H4 D (.lst (acc++[y]))) else Nx H3)
theorem HG {pins:List (Addr×Obj)} {s:Shared} {σ:St} {H:Hp} {Q:VK} {elt tg iter:Expr} {ifs:List Expr} {scope:Scope} {own:List (Str×Nat)} {pos pos':Pos} {wi:TI} {g:TG} {tt:TT} {te:TE} {use:Option (Value→Sem Unit)} {Qf:Value→Shared→Prop}
  (hc:X.calm=true) (hN:X.N.Nodup) (I:Inv X pins σ H s) (hi:PI X tg iter wi) (ok:Ee X.N X.env.scope scope own)
  (hg:∀(s:Shared) (H:Hp) (C:Addr) (cl:List (Str×Addr)) (fp:List Addr),PG (X.rM s H scope (compEnvC scope cl C X.env) fp) tg g) (ht:∀(s:Shared) (H:Hp) (C:Addr) (cl:List (Str×Addr)) (fp:List Addr),NH (X.rM s H scope (compEnvC scope cl C X.env) fp) ifs tt)
  (he:∀(s:Shared) (H:Hp) (C:Addr) (cl:List (Str×Addr)) (fp:List Addr),PE (X.rM s H scope (compEnvC scope cl C X.env) fp) elt te) (hs:∀x,foldedSetIterable iter X.env x=pure x)
  (h:OX wi g tt te (own.map (·.2)) σ H Q)
  (ZD:∀D C s' m H',Inv X pins σ H' s'→Q (.ref D) H'→s'.heap.Ns C m→uM X pins H' C→compPost (model X.prog X.w) X.A X.xe use Qf (.ref D) C (.ok .next) s') :
  wpAny (model X.prog X.w) X.A (comprehension (.ListComp elt [⟨tg,iter,ifs,0⟩] scope pos) scope X.env pos' (newList []) false (eval iter X.env) use) Qf X.xe s:=by
 have vR:∀y∈scope.names,y.2=.free→∃c,X.env.cells.lookup y.1=some c:=fun y hy e=>by
  rcases ok.free y hy e with k|k
  ·exact I.ok.has _ (.inl k)
  ·exact I.ok.has _ (.inr k)
 refine wpAny_comprehension_free (use:=use) rfl hs (Gj vR) ok.kind (fun y hy e=>by rw [ok.uniq y hy,e])
  (iy (hi pins s σ H _ I h) fun xv s1 hx=>iy hx fun V2 s2 h2=>?_)
 obtain ⟨it,fp,tn,J,H2,e,I2,T,rL,f2,q⟩:=h2
 subst e
 refine wpAny_newObj_type (Ed ?_) (by show 0≤sizeLine;decide)
 generalize hD:s2.heap.objs.size=D
 have ZE:H2 D=none:=I2.gk.fresh (z7 hD)
 obtain ⟨W,⟨m0,w0⟩,turn⟩:=q D ZE
 generalize Yh:({ s2 with heap:=s2.heap.push { cls:=.type "list",data:=.seq ([]:List Value).toArray } }:Shared)=s3
 have I3:Inv X pins σ (upd H2 D (.lst [])) s3:=by
  rw [←Yh]
  refine I2.laid (t':=s2.toks) (fun b o e=>Heap.get?_push_of_some _ e) (z7 hD) ⟨c8 _,[],0,.nil,?_⟩
  rw [←hD]
  exact Heap.get?_push_size _ rfl
 have h3:s3.heap=s2.heap.push { cls:=.type "list",data:=.seq ([]:List Value).toArray }:=by rw [←Yh]
 have sz:∀b∈fp,b < s2.heap.objs.size:=fun b hb=>by
  obtain ⟨o,e,_⟩:=T.obj _ _ rL b hb
  exact Heap.lt_size e
 have f3:∀b∈fp,uM X pins (upd H2 D (.lst [])) b∧b < s3.heap.objs.size:=fun b hb=>by
  have D3:=sz b hb
  refine ⟨⟨?_,(f2 b hb).2⟩,by rw [h3,Heap.size_push];exact z9 D3⟩
  rw [aN (by rw [←hD];exact cF D3)]
  exact (f2 b hb).1
 have oP:tn 0 s3.heap:=T.keep _ _ _ rL fun b _ o e=>by rw [h3];exact Heap.get?_push_of_some _ e
 have I4:=Ef I3 ok hN f3
 have pg:=hg s3 (upd H2 D (.lst [])) s3.heap.objs.size (cellsFrom (s3.heap.objs.size+1) scope.names (eu X.env.cells scope.names [])) fp
 have pt:=ht s3 (upd H2 D (.lst [])) s3.heap.objs.size (cellsFrom (s3.heap.objs.size+1) scope.names (eu X.env.cells scope.names [])) fp
 have pe:=he s3 (upd H2 D (.lst [])) s3.heap.objs.size (cellsFrom (s3.heap.objs.size+1) scope.names (eu X.env.cells scope.names [])) fp
 show codeAny _ _ (.compStart (.ListComp elt [⟨tg,iter,ifs,0⟩] scope pos) 0 (.ref it) (.ref D) (compEnvC scope (cellsFrom (s3.heap.objs.size+1) scope.names (eu X.env.cells scope.names [])) s3.heap.objs.size X.env)) (compPost (model X.prog X.w) X.A X.xe use Qf (.ref D) s3.heap.objs.size) { s3 with heap:=pushCells (s3.heap.push { cls:=.type "dict",data:=.dict #[] }) scope.names }
 have Yi:∀b∈fp,(upd H2 D (.lst [])) b=none:=fun b hb=>(f3 b hb).1.1
 generalize ZF:compEnvC scope (cellsFrom (s3.heap.objs.size+1) scope.names (eu X.env.cells scope.names [])) s3.heap.objs.size X.env=ce at I4 pg pt pe ⊢
 have cL:ce.locals=s3.heap.objs.size:=by subst ZF;rfl
 generalize hH3:upd H2 D (.lst [])=H3 at I3 I4 pg pt pe w0 Yi f3
 generalize ZG:({ s3 with heap:=pushCells (s3.heap.push { cls:=.type "dict",data:=.dict #[] }) scope.names }:Shared)=s4 at I4 ⊢
 have vT:tn 0 s4.heap:=T.keep _ _ _ oP fun b _ o e=>by rw [←ZG];exact pushCells_keeps _ _ _ _ (Heap.get?_push_of_some _ e)
 have F8:∀{fJ:St} {H':Hp} {s':Shared},Inv (X.rM s3 H3 scope ce fp) [] fJ H' s'→(∀b∈fp,H' b=none)→∀b∈fp,uM (X.rM s3 H3 scope ce fp) [] H' b:=fun {fJ H' s'} I' hn b hb =>
  ⟨hn b hb,(I'.ok.U7 b hb).1,I'.ok.Ki b hb,.inl hb,fun x c e=>(I'.ok.U7 b hb).2 x c e,fun p hp=>absurd (show p∈([]:List (Addr×Obj))++[] from hp) (by simp)⟩
 have loop:codeAny (model X.prog X.w) X.A (.compLoop (.ListComp elt [⟨tg,iter,ifs,0⟩] scope pos) 0 (.ref it) (.ref D) ce) (compPost (model X.prog X.w) X.A X.xe use Qf (.ref D) s3.heap.objs.size) s4:=by
  refine Cy (fun n s'=>∃i H',Inv (X.rM s3 H3 scope ce fp) [] (wipe σ (own.map (·.2))) H' s'∧tn i s'.heap∧(∀b∈fp,H' b=none)∧W i n H') ?_ m0 ⟨0,H3,I4,vT,Yi,w0⟩
  rintro n s5 ⟨i,H5,I5,uN,n5,w5⟩
  rcases turn i n H5 w5 with ⟨stop,qq⟩|⟨go,Nx,ZH,step⟩
  ·have td:=T.done (X.rM s3 H3 scope ce fp) rfl rfl rfl hc i [] s5 _ H5 (fun _ _=>False) I5 (F8 I5 n5) uN stop
   refine Jh td fun r s6 ⟨hr,I6⟩=>?_
   subst hr
   have I7:Inv X pins σ H5 s6:=I3.Se (ch:=fp) I6.os I6.base I6.gk I6.bare fun b hb=>⟨(f3 b hb).1.2.2.2.1,(f3 b hb).1.2.1,(f3 b hb).1.2.2.2.2.1,(f3 b hb).1.2.2.2.2.2⟩
   have nC:H5 s3.heap.objs.size=none:=by
    have z:H5 ce.locals=none:=I6.free
    rw [cL] at z
    exact z
   obtain ⟨m,hn,_⟩:=I6.loc
   have hn:s6.heap.Ns ce.locals m:=hn
   rw [cL] at hn
   exact ZD D s3.heap.objs.size s6 m H5 I7 qq hn (I3.FZ (aY _) nC)
  ·have ti:=T.item (X.rM s3 H3 scope ce fp) rfl rfl rfl hc i [] s5 _ H5 (fun _ _=>False) I5 (F8 I5 n5) uN go
   refine Jh ti fun r s6 ⟨u,hr,h6⟩=>?_
   subst hr
   refine Jh h6 fun _ s7 ⟨x,H7,I7,r7,y7,Gk,n7⟩=>?_
   have ZI:=I7.pinned (F8 I7 n7) (T.obj _ _ Gk)
   refine Jh (pg _ s7 _ H7 x u _ ZI r7 (step x H7 y7)) fun _ s8 ⟨Vg,H8,I8,Yj,q8⟩=>?_
   refine Jh (pt _ s8 Vg H8 _ I8 q8) fun b s9 ⟨H9,I9,q9⟩=>?_
   have fin:∀{s':Shared} {H':Hp},Inv (X.rM s3 H3 scope ce fp) ([]++yd fp s7.heap) Vg H' s'→Nx H'→∃m,m < n∧∃i H',Inv (X.rM s3 H3 scope ce fp) [] (wipe σ (own.map (·.2))) H' s'∧tn i s'.heap∧(∀b∈fp,H' b=none)∧W i m H':=fun {s' H'} I' nx=>by
    obtain ⟨m',hm,w'⟩:=ZH H' nx
    have S9:∀b∈fp,∀o,s7.heap.get? b=some o→s'.heap.get? b=some o∧H' b=none:=fun b hb o e =>
     let z:=I'.pin (b,o) (dB _ (dB _ (sD hb e)))
     ⟨z.1,z.2.1⟩
    have hl:(wipe σ (own.map (·.2))).length=Vg.length:=by rw [←Yj,iC]
    refine ⟨m',hm,i+1,H',(I'.tK (pins:=[])).weak hl (fun j v e=>?_),T.keep _ _ _ Gk fun b hb o e=>(S9 b hb o e).1,fun b hb=>?_,w'⟩
    ·rw [←Yj] at e
     exact (uU e).1
    ·obtain ⟨o,e,_⟩:=T.obj _ _ Gk b hb
     exact (S9 b hb o e).2
   cases b with
   | false =>
    simp only [Na,if_false] at q9 ⊢
    exact fin I9 q9
   | true =>
    simp only [if_true] at q9 ⊢
    refine Jh (pe _ s9 Vg H9 _ I9 q9) fun z WJ ⟨yv,ZJ,ZK,ZL,acc,WK,Qy,nx⟩=>?_
    exact Qx (X:=X.rM s3 H3 scope ce fp) ZK WK Qy ZL fun s11 ZM=>fin ZM nx
 exact codeAny_compStart_list loop (T.self X.A 0 _ _ _ vT loop)
theorem OY {elt tg iter:Expr} {ifs:List Expr} {scope:Scope} {own:List (Str×Nat)} {pos:Pos} {wi:TI} {g:TG} {tt:TT} {te:TE} (hc:X.calm=true) (hN:X.N.Nodup) (hi:PI X tg iter wi) (ok:Ee X.N X.env.scope scope own)
  (hg:∀(s:Shared) (H:Hp) (C:Addr) (cl:List (Str×Addr)) (fp:List Addr),PG (X.rM s H scope (compEnvC scope cl C X.env) fp) tg g) (ht:∀(s:Shared) (H:Hp) (C:Addr) (cl:List (Str×Addr)) (fp:List Addr),NH (X.rM s H scope (compEnvC scope cl C X.env) fp) ifs tt)
  (he:∀(s:Shared) (H:Hp) (C:Addr) (cl:List (Str×Addr)) (fp:List Addr),PE (X.rM s H scope (compEnvC scope cl C X.env) fp) elt te) (hs:∀x,foldedSetIterable iter X.env x=pure x:=by intro _;rfl) :
  PE X (.ListComp elt [⟨tg,iter,ifs,0⟩] scope pos) (OX wi g tt te (own.map (·.2))):=by
 intro pins s σ H Q I h
 rw [eval_ListComp]
 refine HG hc hN I hi ok hg ht he hs h fun D C s' m H' I' q hn f=>⟨m,hn,fun OZ sb=>?_⟩
 obtain ⟨f0,f1,f2,f3,f4,f5⟩:=f
 exact ⟨.ref D,H',I'.turned (t':=s'.toks) (fun b o hb e=>(sb.2 b hb).trans e) f0 f1 f3 f4 f5,rfl,q⟩
theorem KW {i:Nat} {y:Str} {py:Pos} {elt tg iter:Expr} {ifs:List Expr} {scope:Scope} {own:List (Str×Nat)} {pos S_:Pos} {wi:TI} {g:TG} {tt:TT} {te:TE} (hc:X.calm=true) (hN:X.N.Nodup) (hy:X.N[i]?=some y) (Yk:X.env.scope.names.lookup y=some .local)
  (WL:swapsWith (.ListComp elt [⟨tg,iter,ifs,0⟩] scope pos) (some (.Name y py)) S_.line X.env=pure true) (hi:PI X tg iter wi) (ok:Ee X.N X.env.scope scope own)
  (hg:∀(s:Shared) (H:Hp) (C:Addr) (cl:List (Str×Addr)) (fp:List Addr),PG (X.rM s H scope (compEnvC scope cl C X.env) fp) tg g) (ht:∀(s:Shared) (H:Hp) (C:Addr) (cl:List (Str×Addr)) (fp:List Addr),NH (X.rM s H scope (compEnvC scope cl C X.env) fp) ifs tt)
  (he:∀(s:Shared) (H:Hp) (C:Addr) (cl:List (Str×Addr)) (fp:List Addr),PE (X.rM s H scope (compEnvC scope cl C X.env) fp) elt te) (hs:∀x,foldedSetIterable iter X.env x=pure x:=by intro _;rfl) :
  PS X (.Assign [.Name y py] (.ListComp elt [⟨tg,iter,ifs,0⟩] scope pos) S_) (wo (OX wi g tt te (own.map (·.2))) (lA i)):=by
 intro pins s σ H D I h
 rw [exec_Assign_Name_used _ _ _ _ WL]
 refine wpAny_bind (wpAny_standAt (wpAny_bind ?_))
 show wpAny _ X.A (do let _ ←comprehension (.ListComp elt [⟨tg,iter,ifs,0⟩] scope pos) scope X.env (firstIterPos [⟨tg,iter,ifs,0⟩] pos) (newList []) false (eval iter X.env) (some (assign (.Name y py) X.env))) _ _ s
 have h:OX wi g tt te (own.map (·.2)) σ H (fun x H1=>lA i x σ H1 D.nx):=h
 refine wpAny_bind (iy (HG (Qf:=fun _ s'=>SP X pins D .next s') hc hN I hi ok hg ht he hs h fun L C s' m H' I' q hn f=>?_) fun _ s' hq=>wpAny_pure (wpAny_pure hq))
 show wpAny _ _ (assign (.Name y py) X.env (.ref L)) _ _ _
 refine wpAny_assign_Name (Bu (v:=V.ref L) I' hN hy (.inl Yk) rfl (fun s2 I2 ⟨a,sb,ha⟩=>?_) (.inr Yk))
 obtain ⟨f0,f1,f2,f3,f4,f5⟩:=f
 have ZN:C≠a:=by
  rcases ha with z|z
  ·rw [z];exact f1
  ·exact fun e=>f4 y a z e.symm
 refine ⟨m,hn.sameBut sb ZN,fun h3 ZO=>?_⟩
 exact ⟨_,H',I2.turned (t':=s2.toks) (fun b o hb e=>(ZO.2 b hb).trans e) f0 f1 f3 f4 f5,q⟩
end
noncomputable def Qz (N:List Str) (sc scope:Scope) (own:List (Str×Nat)):Bool :=
 (match scope.kind with|.function=>true|_=>false)&&(scope.names.all fun y=>decide (scope.names.lookup y.1=some y.2))&&(own.all fun p=>decide (N[p.2]?=some p.1)) &&
  (scope.names.all fun y=>match y.2 with
   | .free=>(match sc.names.lookup y.1 with|some .cell=>true|some .free=>true|_=>false)
   | .local=>decide (y.1∈own.map (·.1))||decide (y.1 ∉ N)
   | .cell=>decide (y.1∈own.map (·.1))||decide (y.1 ∉ N)
   | _=>true)
theorem yj {N:List Str} {sc scope:Scope} {own:List (Str×Nat)} (h:Qz N sc scope own=true):Ee N sc scope own:=by
 unfold Qz at h
 simp only [aj,aZ,decide_eq_true_eq] at h
 obtain ⟨⟨⟨h1,h2⟩,h3⟩,h4⟩:=h
 refine ⟨?_,h2,h3,fun y hy e=>?_,fun y hy e=>?_⟩
 ·split at h1
  ·assumption
  ·cases h1
 ·have q:=h4 y hy
  simp only [e] at q
  split at q<;>first|exact .inl (by assumption)|exact .inr (by assumption)|cases q
 ·have q:=h4 y hy
  rcases e with e|e<;>(simp only [e,cY,decide_eq_true_eq] at q;exact q)
end L2
namespace L2
open PySem PySem.Spec PyProof.Rows
section
variable {prog:Program} {w:World} {A:Around} {R:Result→Shared→Prop} {s:Shared} {elt t0 i0 t1 i1:Expr} {ZP ZQ:List Expr} {scope:Scope} {pos:Pos} {it acc:Value} {env:Env}
end
section
variable {X:Cx}
end
end L2
namespace L2
open PySem PySem.Spec PyProof.Rows
section
variable {κ:Type} [DecidableEq κ]
noncomputable def NL (ka:List (κ×V)) (k:κ):Option V:=(ka.find? fun kv=>decide (kv.1=k)).map (·.2)
noncomputable def putK (ka:List (κ×V)) (k:κ) (v:V):List (κ×V) :=
 if (ka.any fun kv=>decide (kv.1=k))=true then ka.map (fun kv=>if kv.1=k then (kv.1,v) else kv) else ka++[(k,v)]
theorem Cg.getD {o:Option V} {u:Option Value} {d:V} {d':Value} (r:Cg o u) (rd:RelV d d'):RelV (o.getD d) (u.getD d'):=by
 cases o with
 | none=>cases u with
  | none=>exact rd
  | some _=>exact (show False from r).elim
 | some _=>cases u with
  | none=>exact (show False from r).elim
  | some _=>exact r
end
section
variable {P:Program} {w:World} {H:Hp} {h:Heap} {a:Addr}
end
noncomputable def NM (H:Hp) (a:Addr) (y:V) (r:Option V):Prop :=
 (∃ka k,Rd H a (.dK ka)∧y=kV k∧r=NL ka k)∨∃ka k b,Rd H a (.dT ka)∧y=.ref b∧H b=some (.tup (k.map kV))∧r=NL ka k
noncomputable def NN (H:Hp) (a:Addr) (y v:V) (H':Hp):Prop :=
 (∃ka k,H a=some (.dK ka)∧y=kV k∧ka.length < sizeLine∧H'=upd H a (.dK (putK ka k v))) ∨
 ∃ka k b,H a=some (.dT ka)∧y=.ref b∧H b=some (.tup (k.map kV))∧ka.length < sizeLine∧H'=upd H a (.dT (putK ka k v))
theorem NM.k {H:Hp} {a:Addr} {ka:List (Key×V)} {k:Key} (e:H a=some (.dK ka)):NM H a (kV k) (NL ka k):=.inl ⟨ka,k,.inl e,rfl,rfl⟩
theorem NM.t {H:Hp} {a b:Addr} {ka:List (List Key×V)} {k:List Key} (e:H a=some (.dT ka)) (eb:H b=some (.tup (k.map kV))):NM H a (.ref b) (NL ka k):=.inr ⟨ka,k,b,.inl e,rfl,eb,rfl⟩
theorem NN.k {H:Hp} {a:Addr} {ka:List (Key×V)} {k:Key} {v:V} (e:H a=some (.dK ka)) (hl:ka.length < sizeLine):NN H a (kV k) v (upd H a (.dK (putK ka k v))):=.inl ⟨ka,k,e,rfl,hl,rfl⟩
theorem NN.t {H:Hp} {a b:Addr} {ka:List (List Key×V)} {k:List Key} {v:V} (e:H a=some (.dT ka)) (eb:H b=some (.tup (k.map kV))) (hl:ka.length < sizeLine) :
  NN H a (.ref b) v (upd H a (.dT (putK ka k v))):=.inr ⟨ka,k,b,e,rfl,eb,hl,rfl⟩
section
variable {X:Cx} {pins:List (Addr×Obj)} {σ:St} {H:Hp} {s:Shared} {a:Addr} {y v:V} {u r:Value} {o:Option V} {A:Around} {E:Value→Shared→Prop}
end
section
variable {X:Cx} {pins:List (Addr×Obj)} {σ:St} {H:Hp} {s:Shared} {a:Addr} {ka:List (Key×V)} {k:Key} {u:Value} {A:Around} {E:Value→Shared→Prop}
end
section
variable {X:Cx} {o i e value:Expr} {pos pos' uP:Pos} {td ty tv:TE}
end
section
variable {X:Cx} {pos:Pos}
end
section
variable {X:Cx} {pins:List (Addr×Obj)} {σ:St} {H:Hp} {s:Shared} {a:Addr} {y d:V} {u r:Value} {o:Option V} {A:Around} {E:Value→Shared→Prop}
end
section
variable {X:Cx} {o e f:Expr} {apos kh:Pos} {td ty tx:TE}
end
section
variable {X:Cx} {pins:List (Addr×Obj)} {σ:St} {H:Hp} {s:Shared} {a:Addr} {ka:List (Key×V)} {A:Around} {E:Value→Shared→Prop}
end
section
variable {X:Cx} {pins:List (Addr×Obj)} {σ:St} {H:Hp} {s:Shared} {a:Addr} {y:V} {u:Value} {A:Around} {E:Value→Shared→Prop}
end
end L2
namespace L2
open PySem PySem.Spec PyProof.Rows
section
variable {prog:Program} {w:World} {A:Around} {E:Value→Shared→Prop}
end
section
variable {X:Cx}
end
end L2
namespace L2
open PySem PySem.Spec PyProof.Rows
theorem ql:bootBuiltins "reversed" = some (.type "reversed"):=by decide +kernel
section
variable {X:Cx} {pins:List (Addr×Obj)} {σ:St} {H:Hp} {s:Shared} {h':Heap}
theorem Inv.NO {t':Nat} {ch:List Addr} (I:Inv X pins σ H s) (k:∀b o,b ∉ ch→s.heap.get? b=some o→h'.get? b=some o) (hf:∀b∈ch,uM X pins H b):Inv X pins σ H { s with heap:=h',toks:=t' }:=by
 have OO:∀b u,H b=some u→b ∉ ch:=fun b u e z=>by
  have q:=(hf b z).1
  rw [q] at e;cases e
 refine I.step (g':=s.gens) (d':=s.drawn) (ch:=ch) (fun b hb=>⟨(hf b hb).2.2.2.1,(hf b hb).2.1,(hf b hb).2.2.2.2.1,(hf b hb).2.2.2.2.2⟩) (fun b o _ _ hc e _=>k b o hc e) (fun b o _ _ hc e _=>⟨o.slots,k b o hc e⟩)
  (fun _ _ _ _ n=>n) (fun b o hc e=>⟨o,k b o hc e⟩) (fun _ _ e=>e) (fun _ _ _ e=>e) (fun b ps e=>⟨#[],by rw [e];simp⟩) (fun m hm=>?_) (fun b u e=>?_) I.bare
 ·obtain ⟨o,es,ep,ho,r⟩:=hm
  exact ⟨o,es,ep,k _ o (fun z=>(hf _ z).2.1 rfl) ho,r⟩
 ·refine (I.gk b u e).FX (fun c v hc q=>k c v ?_ q) (fun _ q=>q) fun _ _ q=>q
  rcases hc with z|z
  ·rw [z];exact OO b u e
  ·exact OO c _ z
theorem Inv.uV {t':Nat} {ch:List Addr} {T:Addr} {ob:HO} (I:Inv X pins σ H s) (k:∀b o,b ∉ ch→s.heap.get? b=some o→h'.get? b=some o) (hf:∀b∈ch,uM X pins H b) (hT:s.heap.objs.size≤T)
  (new:jA X.prog X.w (upd H T ob) h' T ob):Inv X pins σ (upd H T ob) { s with heap:=h',toks:=t' }:=by
 have hn:H T=none:=I.gk.fresh hT
 have OO:∀b u,H b=some u→b ∉ ch:=fun b u e z=>by
  have q:=(hf b z).1
  rw [q] at e;cases e
 refine I.step (g':=s.gens) (d':=s.drawn) (ch:=ch) (fun b hb=>⟨(hf b hb).2.2.2.1,(hf b hb).2.1,(hf b hb).2.2.2.2.1,(hf b hb).2.2.2.2.2⟩) (fun b o _ _ hc e _=>k b o hc e) (fun b o _ _ hc e _=>⟨o.slots,k b o hc e⟩)
  (fun b o _ e n=>?_) (fun b o hc e=>⟨o,k b o hc e⟩) (fun b xs e=>?_) (fun b o u e=>?_) (fun b ps e=>⟨#[],?_⟩) (fun m hm=>?_) (fun b u e=>?_) I.bare
 ·rw [aN (cF (bE (Heap.lt_size e) hT))];exact n
 ·rw [aN (bS e hn)];exact e
 ·rw [aN (bS e hn)];exact e
 ·rw [aN (bS e hn),e];simp
 ·obtain ⟨o,es,ep,ho,r⟩:=hm
  exact ⟨o,es,ep,k _ o (fun z=>(hf _ z).2.1 rfl) ho,r⟩
 ·by_cases hb:b=T
  ·subst hb
   rw [aL] at e
   cases e
   exact new
  ·rw [aN hb] at e
   refine (I.gk b u e).FX (fun c v hc q=>k c v ?_ q) (fun c q=>by rw [aN (bS q hn)];exact q) fun c xs q=>by rw [aN (bS q hn)];exact q
   rcases hc with z|z
   ·rw [z];exact OO b u e
   ·exact OO c _ z
end
section
variable {X:Cx}
theorem QA {tg:Expr} {pins:List (Addr×Obj)} {σ:St} {H:Hp} {s:Shared} {R:It→Hp→Prop} {J:It} {tn:Nat→Heap→Prop} {tk:Nat} (I:Inv X pins σ H s) (o:Obj)
  (T:Turn X.prog X.w X.K tg J [s.heap.objs.size] s.heap.objs.size tn) (st:tn 0 (s.heap.push o)) (q:R J H):V1 X pins σ tg R (.ref s.heap.objs.size) { s with heap:=s.heap.push o,toks:=tk }:=by
 refine ⟨s.heap.objs.size,[s.heap.objs.size],tn,J,H,rfl,I.kept fun b ob e=>Heap.get?_push_of_some _ e,T,st,fun b hb=>?_,q⟩
 have e:b=s.heap.objs.size:=by simpa using hb
 subst e
 exact I.FZ (aY _) (I.gk.fresh (aY _))
end
noncomputable def Yl (i j c:Int) (n:Nat):Prop:=c≠0∧c.natAbs < 1073741824∧Builtin.Range.small i j c=true∧Builtin.Range.rangeSize i j c=n
theorem Yl.neg {i j:Int} (ha:-(2 ^ 62)≤i) (ZR:i < 2 ^ 62) (hb:-(2 ^ 62)≤j) (RV:j < 2 ^ 62):Yl i j (-1) (i - j).toNat :=
 ⟨by decide,by decide,PySem.W.small_down ha ZR hb RV,PySem.W.rangeSize_downNat i j⟩
section
variable {X:Cx} {tg:Expr}
end
noncomputable def WM (K:ab) (a:Addr) (n:Nat):It :=
 ⟨fun i H=>i < n∧∃(xs:List V) (x:V),fo K H a xs∧xs[n - 1 - i]?=some x,fun i H x H'=>H'=H∧∀xs,fo K H a xs→xs[n - 1 - i]?=some x,fun i _=>n≤i⟩
theorem KY {P:Program} {w:World} {K:ab} {tg:Expr} (a it:Addr) (n:Nat):Turn P w K tg (WM K a n) [it] it (fun i h=>i≤n∧h.IsRevIter it a ((n:Int) - 1 - (i:Nat))) where
 mem:=by simp
 obj:=fun i h st b hb=>by
  have e:b=it:=by simpa using hb
  subst e
  obtain ⟨_,o,e,c,d⟩:=st
  exact ⟨o,e,fun v z=>by rw [d] at z;cases z⟩
 keep:=fun i h h' st k=>⟨st.1,st.2.at fun o e=>k it (by simp) o e⟩
 item:=by
  intro X hP hw hK hc i pins s σ H E I hf st hg
  subst hP hw hK
  obtain ⟨Ji,xs,x,hq,hx⟩:=hg
  obtain ⟨bU,rv,p,hz⟩:=I.list hq
  obtain ⟨u,hu,ru⟩:=rv.get hx
  obtain ⟨f0,f1,f2,f3,f4,f5⟩:=hf it (by simp)
  obtain ⟨_,hit⟩:=st
  have e1:(n:Int) - 1 - ((i:Nat):Int)=((n - 1 - i:Nat):Int):=by omega
  rw [e1] at hit
  refine wpAny_pyNext_rev_item hit p.isList (x:=u) (by simpa using hu) fun h' kU sb=>?_
  have e2:((n - 1 - i:Nat):Int) - 1=(n:Int) - 1 - ((i+1:Nat):Int):=by omega
  rw [e2] at kU
  have I1:Inv X pins σ H { s with heap:=h' }:=I.turned (t':=s.toks) (fun b o hb e=>(sb.2 b hb).trans e) f0 f1 f3 f4 f5
  obtain ⟨o,e,c,d⟩:=id kU
  exact ⟨u,rfl,Kv (s:={ s with heap:=h' }) e c d (by decide) ⟨x,H,I1,ru,⟨rfl,fun ys hy=>by rw [I.qf hy hq];exact hx⟩,⟨Ji,kU⟩,fun b hb=>(hf b hb).1⟩⟩
 done:=by
  intro X hP hw hK hc i pins s σ H E I hf st hg
  subst hP hw hK
  obtain ⟨f0,f1,f2,f3,f4,f5⟩:=hf it (by simp)
  obtain ⟨Ji,hit⟩:=st
  have NP:n≤i:=hg
  have e1:(n:Int) - 1 - ((i:Nat):Int)=-1:=by omega
  rw [e1] at hit
  exact wpAny_pyNext_rev_end (I.ok.hd hc) hit fun h' eb=>⟨rfl,I.turned (t':=s.toks) (fun b o hb e=>eb b o hb e) f0 f1 f3 f4 f5⟩
 self:=fun A i s Q E st h=>wpAny_pyIter_revIter st.2 h
noncomputable def WN (K:ab) (ta:TA):TI:=fun σ H R=>ta σ H fun vs H1=>∃(a:Addr) (xs:List V),vs=[.ref a]∧fo K H1 a xs∧R (WM K a xs.length) H1
section
variable {X:Cx} {tg:Expr}
theorem Eh {e:Expr} {ta:TA} {p pos:Pos} (hg:Gl X "reversed") (hm:X.mg "reversed" = none) (ha:PA X [e] ta) (hs:starEach [e] X.env=[(false,eval e X.env)]:=by rfl):PI X tg (.Call (.Name "reversed" p) [e] [] pos) (WN X.K ta):=by
 intro pins s σ H R I h
 refine Call_ (oR I hg hm ql (PyProof.Rows.callWith_type1 (iy (ha pos pins s σ H _ I h) fun us s1 ⟨vs,H1,I1,r1,q1⟩=>?_) hs rfl))
 obtain ⟨a,xs,e,hq,q⟩:=q1
 subst e
 cases r1 with
 | cons r rr =>
  cases rr
  cases r
  obtain ⟨bU,rv,p',hz⟩:=I1.list hq
  have hl:=rv.length
  have e1:((bU.toArray.size:Nat):Int) - 1=(xs.length:Int) - 1 - ((0:Nat):Int):=by simp only [aJ];omega
  refine call_reversed_list p'.isList (wpAny_pyIter_revIter (l:=a) (i:=((bU.toArray.size:Nat):Int) - 1) ⟨_,Heap.get?_push_size _ rfl,rfl,rfl⟩ ?_)
  refine QA (tk:=s1.toks) I1 _ (KY a _ xs.length) ⟨c8 _,?_⟩ q
  rw [←e1]
  exact ⟨_,Heap.get?_push_size _ rfl,rfl,rfl⟩
end
section
variable {prog:Program} {w:World} {A:Around} {E:Value→Shared→Prop} {s:Shared}
end
section
variable {X:Cx} {pins:List (Addr×Obj)} {σ:St} {H:Hp} {s:Shared} {d:Addr} {o:Obj}
end
section
variable {P:Program} {w:World} {K:ab} {tg:Expr} {d:Addr} {o:Obj} {es:Array DictEntry} {ep:Nat}
end
section
variable {X:Cx} {tg e:Expr} {td:TE} {apos kh:Pos}
end
noncomputable def WO (K:ab) (a:Addr):It :=
 ⟨fun i H=>∃(xs:List V) (x:V),fo K H a xs∧xs[i]?=some x,fun i H v H'=>∃T x,v=.ref T∧H T=none∧H'=upd H T (.tup [.int (i:Nat),x])∧∀xs,fo K H a xs→xs[i]?=some x,fun i H=>∃xs:List V,fo K H a xs∧xs.length≤i⟩
theorem Jj {P:Program} {w:World} {K:ab} {elts:List Expr} {kk:Nat} {uP:Pos} (a e it:Addr) :
  Turn P w K (.Tuple elts kk uP) (WO K a) [e,it] e (fun i h=>(∃old,IsEnum h e it ((i:Nat):Int) old)∧h.IsListIter it a i∧e≠it) where
 mem:=by simp
 obj:=fun i h st b hb=>by
  obtain ⟨⟨old,he⟩,⟨o,ho,hc,hd⟩,_⟩:=st
  have e':b=e∨b=it:=by simpa using hb
  rcases e' with z|z
  ·rw [z];exact ⟨_,he,fun v q=>nomatch q⟩
  ·rw [z];exact ⟨o,ho,fun v q=>by rw [hd] at q;cases q⟩
 keep:=fun i h h' st k=>let ⟨⟨old,he⟩,hi,k6⟩:=st;⟨⟨old,k e (by simp) _ he⟩,hi.at fun o q=>k it (by simp) o q,k6⟩
 item:=by
  intro X hP hw hK hc i pins s σ H E I hf st hg
  subst hP hw hK
  obtain ⟨⟨old,he⟩,hit,k6⟩:=st
  obtain ⟨xs,x,hq,hx⟩:=hg
  obtain ⟨bU,rv,p,hz⟩:=I.list hq
  obtain ⟨u,hu,ru⟩:=rv.get hx
  have Ym:e < s.heap.objs.size:=Heap.lt_size he
  have ZS:it < s.heap.objs.size:=by obtain ⟨_,q,_⟩:=hit;exact Heap.lt_size q
  refine wpAny_pyNext_enum_item he hit p.isList (x:=u) (by simpa using hu) k6 fun h' ho WQ hT hsz hk=>?_
  refine ⟨_,rfl,wpAny_letOwnedTupleGo_enum (s:={ s with heap:=h',toks:=s.toks+1 }) ho fun OZ ZT sb=>?_⟩
  have WR:OZ.get? s.heap.objs.size=some { cls:=.type "tuple",data:=.seq #[.int i s.toks,u] }:=(sb.2 _ (r0 Ym)).trans hT
  have new:jA X.prog X.w (upd H s.heap.objs.size (.tup [.int (i:Nat),x])) OZ s.heap.objs.size (.tup [.int (i:Nat),x]) :=
   ⟨by show 2≤sizeLine;decide,[.int i s.toks,u],.cons ⟨_,rfl⟩ (.cons ru .nil),⟨_,WR,rfl,_,rfl⟩⟩
  have I1:Inv X pins σ (upd H s.heap.objs.size (.tup [.int (i:Nat),x])) { s with heap:=OZ,toks:=s.toks+1 } :=
   I.uV (ch:=[e,it]) (fun b ob hb q=>(sb.2 b (fun z=>hb (by simp [z]))).trans (hk b ob (fun z=>hb (by simp [z])) (fun z=>hb (by simp [z])) q)) hf (aY _) new
  refine ⟨.ref s.heap.objs.size,_,I1,rfl,⟨_,x,rfl,I.gk.fresh (aY _),rfl,fun ys hy=>by rw [I.qf hy hq];exact hx⟩,⟨⟨u,?_⟩,WQ.at fun o q=>(sb.2 it (Ne.symm k6)).trans q,k6⟩,fun b hb=>?_⟩
  ·have e1:((i+1:Nat):Int)=(i:Int)+1:=by omega
   rw [e1];exact ZT
  ·have RV:b < s.heap.objs.size:=by
    have e':b=e∨b=it:=by simpa using hb
    rcases e' with z|z
    ·rw [z];exact Ym
    ·rw [z];exact ZS
   rw [aN (cF RV)]
   exact (hf b hb).1
 done:=by
  intro X hP hw hK hc i pins s σ H E I hf st hg
  subst hP hw hK
  obtain ⟨⟨old,he⟩,hit,k6⟩:=st
  obtain ⟨xs,hq,hx⟩:=hg
  obtain ⟨bU,rv,p,hz⟩:=I.list hq
  obtain ⟨f0,f1,f2,f3,f4,f5⟩:=hf it (by simp)
  have hl:=rv.length
  exact wpAny_pyNext_enum_end (I.ok.hd hc) he hit p.isList (by simp;omega) fun h' eb=>⟨rfl,I.turned (t':=s.toks) (fun b o hb q=>eb b o hb q) f0 f1 f3 f4 f5⟩
 self:=fun A i s Q E st h=>let ⟨⟨_,he⟩,_⟩:=st;wpAny_pyIter_enum he h
noncomputable def Ta (K:ab) (ta:TA):TI:=fun σ H R=>ta σ H fun vs H1=>∃a xs,vs=[.ref a]∧fo K H1 a xs∧R (WO K a) H1
theorem NQ {X:Cx} {e:Expr} {ta:TA} {p pos uP:Pos} {elts:List Expr} {kk:Nat} (hg:Gl X "enumerate") (hm:X.mg "enumerate" = none) (ha:PA X [e] ta) (hs:starEach [e] X.env=[(false,eval e X.env)]:=by rfl) :
  PI X (.Tuple elts kk uP) (.Call (.Name "enumerate" p) [e] [] pos) (Ta X.K ta):=by
 intro pins s σ H R I h
 refine Call_ (oR I hg hm boot_enumerate (PyProof.Rows.callWith_type1 (iy (ha pos pins s σ H _ I h) fun us s1 ⟨vs,H1,I1,r1,q1⟩=>?_) hs rfl))
 obtain ⟨a,xs,ex,hq,q⟩:=q1
 subst ex
 cases r1 with
 | cons r rr =>
  cases rr
  cases r
  obtain ⟨bU,rv,p',hz⟩:=I1.list hq
  refine call_enumerate_list p'.isList fun h' he hit hsz hk=>wpAny_pyIter_enum he ?_
  have I2:Inv X pins σ H1 { s1 with heap:=h' }:=I1.kept (t':=s1.toks) hk
  refine ⟨s1.heap.objs.size+1,[s1.heap.objs.size+1,s1.heap.objs.size],_,_,H1,rfl,I2,Jj a (s1.heap.objs.size+1) s1.heap.objs.size,⟨⟨.none,he⟩,hit,Nat.succ_ne_self _⟩,fun b hb=>?_,q⟩
  have e':b=s1.heap.objs.size+1∨b=s1.heap.objs.size:=by simpa using hb
  have hle:s1.heap.objs.size≤b:=by
   rcases e' with z|z
   ·rw [z];exact mj _ _
   ·rw [z];exact aY _
  exact I1.FZ hle (I1.gk.fresh hle)
theorem Jk:bootBuiltins "zip" = some (.type "zip"):=by decide +kernel
noncomputable def WS (K:ab) (a b:Addr):It :=
 ⟨fun i H=>∃(xs ys:List V) (x y:V),fo K H a xs∧fo K H b ys∧xs[i]?=some x∧ys[i]?=some y,
  fun i H v H'=>∃T x y,v=.ref T∧H T=none∧H'=upd H T (.tup [x,y])∧(∀xs,fo K H a xs→xs[i]?=some x)∧∀ys,fo K H b ys→ys[i]?=some y,
  fun i H=>∃xs ys:List V,fo K H a xs∧fo K H b ys∧(xs.length≤i∨ys.length≤i)⟩
theorem KZ {P:Program} {w:World} {K:ab} {elts:List Expr} {kk:Nat} {uP:Pos} {a b z TI TO i1 i2:Addr} (D:ZipApart z TI TO i1 i2 a b) :
  Turn P w K (.Tuple elts kk uP) (WS K a b) [z,TI,TO,i1,i2] z (fun i h=>IsZip h z TI TO .none∧IsPair h TI (.ref i1) (.ref i2)∧(∃x y,IsPair h TO x y)∧h.IsListIter i1 a i∧h.IsListIter i2 b i) where
 mem:=by simp
 obj:=fun i h st c hc=>by
  obtain ⟨hz,K0,⟨x,y,MY⟩,⟨o1,e1,_,d1⟩,⟨o2,e2,_,d2⟩⟩:=st
  have e':c=z∨c=TI∨c=TO∨c=i1∨c=i2:=by simpa using hc
  rcases e' with q|q|q|q|q
  ·rw [q];exact ⟨_,hz,fun v q=>nomatch q⟩
  ·rw [q];exact ⟨_,K0,fun v q=>nomatch q⟩
  ·rw [q];exact ⟨_,MY,fun v q=>nomatch q⟩
  ·rw [q];exact ⟨o1,e1,fun v q=>by rw [d1] at q;cases q⟩
  ·rw [q];exact ⟨o2,e2,fun v q=>by rw [d2] at q;cases q⟩
 keep:=fun i h h' st k=>by
  obtain ⟨hz,K0,⟨x,y,MY⟩,h1,h2⟩:=st
  exact ⟨k z (by simp) _ hz,k TI (by simp) _ K0,⟨x,y,k TO (by simp) _ MY⟩,h1.at fun o q=>k i1 (by simp) o q,h2.at fun o q=>k i2 (by simp) o q⟩
 item:=by
  intro X hP hw hK hc i pins s σ H E I hf st hg
  subst hP hw hK
  obtain ⟨hz,K0,⟨x0,y0,MY⟩,h1,h2⟩:=st
  obtain ⟨xs,ys,x,y,RW,RX,hx,hy⟩:=hg
  obtain ⟨bU,rv,p,_⟩:=I.list RW
  obtain ⟨yg,Vh,p2,_⟩:=I.list RX
  obtain ⟨u,hu,ru⟩:=rv.get hx
  obtain ⟨u2,ZU,ZV⟩:=Vh.get hy
  have Yn:z < s.heap.objs.size:=Heap.lt_size hz
  refine wpAny_pyNext_zip_item D hz K0 MY h1 h2 p.isList p2.isList (x:=u) (y:=u2) (by simpa using hu) (by simpa using ZU) fun h' z' ZW ZX ZY hT hsz hk=>?_
  refine ⟨_,rfl,wpAny_letOwnedTupleGo_zip (s:={ s with heap:=h' }) z' fun OZ ZZ sb=>?_⟩
  have WR:OZ.get? s.heap.objs.size=some { cls:=.type "tuple",data:=.seq #[u,u2] }:=(sb.2 _ (r0 Yn)).trans hT
  have new:jA X.prog X.w (upd H s.heap.objs.size (.tup [x,y])) OZ s.heap.objs.size (.tup [x,y]) :=
   ⟨by show 2≤sizeLine;decide,[u,u2],.cons ru (.cons ZV .nil),⟨_,WR,rfl,_,rfl⟩⟩
  have I1:Inv X pins σ (upd H s.heap.objs.size (.tup [x,y])) { s with heap:=OZ } :=
   I.uV (t':=s.toks) (ch:=[z,TI,TO,i1,i2]) (fun c o hb q=>(sb.2 c (fun q'=>hb (by simp [q']))).trans (hk c o (fun q'=>hb (by simp [q'])) (fun q'=>hb (by simp [q'])) (fun q'=>hb (by simp [q'])) (fun q'=>hb (by simp [q'])) q)) hf (aY _) new
  refine ⟨.ref s.heap.objs.size,_,I1,rfl,⟨_,x,y,rfl,I.gk.fresh (aY _),rfl,fun l hl=>by rw [I.qf hl RW];exact hx,fun l hl=>by rw [I.qf hl RX];exact hy⟩,⟨ZZ,?_,⟨u,u2,?_⟩,?_,?_⟩,fun c J6=>?_⟩
  ·exact (sb.2 _ D.TIz).trans (hk _ _ D.TIz D.TITO D.TIi1 D.TIi2 K0)
  ·exact (sb.2 _ D.TOz).trans ZW
  ·exact ZX.at fun o q=>(sb.2 _ D.i1z).trans q
  ·exact ZY.at fun o q=>(sb.2 _ D.i2z).trans q
  ·have D3:c < s.heap.objs.size:=by
    have e':c=z∨c=TI∨c=TO∨c=i1∨c=i2:=by simpa using J6
    rcases e' with q|q|q|q|q
    ·rw [q];exact Yn
    ·rw [q];exact Heap.lt_size K0
    ·rw [q];exact Heap.lt_size MY
    ·rw [q];obtain ⟨_,e1,_⟩:=h1;exact Heap.lt_size e1
    ·rw [q];obtain ⟨_,e2,_⟩:=h2;exact Heap.lt_size e2
   rw [aN (cF D3)]
   exact (hf c J6).1
 done:=by
  intro X hP hw hK hc i pins s σ H E I hf st hg
  subst hP hw hK
  obtain ⟨hz,K0,⟨x0,y0,MY⟩,h1,h2⟩:=st
  obtain ⟨xs,ys,RW,RX,QB⟩:=hg
  obtain ⟨bU,rv,p,_⟩:=I.list RW
  obtain ⟨yg,Vh,p2,_⟩:=I.list RX
  have l1:=rv.length
  have l2:=Vh.length
  have he:bU.toArray[i]?=none∨yg.toArray[i]?=none:=by
   rcases QB with q|q
   ·exact .inl (by simp;omega)
   ·exact .inr (by simp;omega)
  exact wpAny_pyNext_zip_end (I.ok.hd hc) D hz K0 MY h1 h2 p.isList p2.isList he fun h' hk=>⟨rfl,I.NO (t':=s.toks) (ch:=[z,TI,TO,i1,i2]) (fun c o hb q =>
   hk c o (fun q'=>hb (by simp [q'])) (fun q'=>hb (by simp [q'])) (fun q'=>hb (by simp [q'])) (fun q'=>hb (by simp [q'])) q) hf⟩
 self:=fun A i s Q E st h=>wpAny_pyIter_zip st.1 h
noncomputable def WT (K:ab) (ta:TA):TI:=fun σ H R=>ta σ H fun vs H1=>∃a b xs ys,vs=[.ref a,.ref b]∧fo K H1 a xs∧fo K H1 b ys∧R (WS K a b) H1
theorem QC {X:Cx} {e e2:Expr} {ta:TA} {p pos uP:Pos} {elts:List Expr} {kk:Nat} (hg:Gl X "zip") (hm:X.mg "zip" = none) (ha:PA X [e,e2] ta)
  (hs:starEach [e,e2] X.env=(false,eval e X.env)::starEach [e2] X.env:=by rfl) (Je:(backTo pos (starEach [e2] X.env)).any (·.1)=false:=by rfl) :
  PI X (.Tuple elts kk uP) (.Call (.Name "zip" p) [e,e2] [] pos) (WT X.K ta):=by
 intro pins s σ H R I h
 refine Call_ (oR I hg hm Jk (PyProof.Rows.callWith_type1 (iy (ha pos pins s σ H _ I h) fun us s1 ⟨vs,H1,I1,r1,q1⟩=>?_) hs Je))
 obtain ⟨a,b,xs,ys,ex,RW,RX,q⟩:=q1
 subst ex
 cases r1 with
 | cons r rr =>
  cases rr with
  | cons r' rr =>
   cases rr
   cases r
   cases r'
   obtain ⟨bU,rv,p1,_⟩:=I1.list RW
   obtain ⟨yg,Vh,p2,_⟩:=I1.list RX
   have la:a < s1.heap.objs.size:=p1.lt
   have lb:b < s1.heap.objs.size:=p2.lt
   refine call_zip_2 p1.isList p2.isList fun h' hz K0 MY h1 h2 hsz hk=>wpAny_pyIter_zip hz ?_
   have I2:Inv X pins σ H1 { s1 with heap:=h' }:=I1.kept (t':=s1.toks) hk
   refine ⟨s1.heap.objs.size+4,[s1.heap.objs.size+4,s1.heap.objs.size+2,s1.heap.objs.size+3,s1.heap.objs.size,s1.heap.objs.size+1],_,_,H1,rfl,I2,KZ (PySem.W.ktu_apart s1.heap.objs.size a b la lb),⟨hz,K0,⟨_,_,MY⟩,h1,h2⟩,fun c J6=>?_,q⟩
   have e':c=s1.heap.objs.size+4∨c=s1.heap.objs.size+2∨c=s1.heap.objs.size+3∨c=s1.heap.objs.size∨c=s1.heap.objs.size+1:=by simpa using J6
   have hle:s1.heap.objs.size≤c:=by
    rcases e' with z|z|z|z|z
    ·rw [z];exact mj _ _
    ·rw [z];exact mj _ _
    ·rw [z];exact mj _ _
    ·rw [z];exact aY _
    ·rw [z];exact mj _ _
   exact I1.FZ hle (I1.gk.fresh hle)
end L2
section
namespace Bits
open PySem PyProof.Rows
theorem Ei {x y:Int} (hx:0≤x) (hy:0≤y):Builtin.bitOr x y=((x.toNat ||| y.toNat:Nat):Int):=by
 have e:=nat_or_add_and x.toNat y.toNat
 rw [bitOr_and,bitAnd_pp hx hy]
 omega
end Bits
end
section
namespace TL
open PySem PySem.Builtin PySem.Builtin.Str PySem.StrLaws
noncomputable abbrev tl (x:Str):List Nat:=x.cps.toList
noncomputable def pre (S l:List Nat):Bool:=l.take S.length == S
noncomputable def par (S:List Nat):List Nat→List Nat→Option (List Nat×List Nat)
 | _,[]=>none
 | acc,c::r=>if pre S (c::r)=true then some (acc,(c::r).drop S.length) else par S (acc++[c]) r
end TL
end
namespace L2
open PySem PySem.Spec PyProof.Rows
section
variable {X:Cx} {pins:List (Addr×Obj)} {σ:St} {H:Hp} {s:Shared} {Q:VK}
end
section
variable {X:Cx}
end
section
variable {X:Cx} {o e:Expr} {to te:TE}
end
end L2
namespace L2
open PySem PySem.Spec PyProof.Rows
section
variable {X:Cx}
end
end L2
namespace Att
open PySem PySem.W PySem.Calls PyProof.Rows
section
variable {prog:Program} {w:World} {A:Around} {E:Value→Shared→Prop} {s:Shared} {K:Frag}
end
end Att
namespace L2
open PySem PySem.Spec PyProof.Rows
end L2
namespace L2
open PySem PySem.Spec PyProof.Rows
end L2
namespace L2
open PySem PySem.Spec PyProof.Rows
noncomputable def inClass (s:Stmt) (j:Nat):Stmt:=match s with
 | .ClassDef _ _ _ body _ _ _ _ _ _ _=>body.getD j (.Pass ⟨0,0,0,0⟩)
 | _=>.Pass ⟨0,0,0,0⟩
noncomputable def lH (s:Stmt):Arguments:=match s with
 | .FunctionDef _ a _ _ _ _ _ _ _ _=>a
 | _=>{ posonlyargs:=[],args:=[],vararg:=none,kwonlyargs:=[],kw_defaults:=[],kwarg:=none,defaults:=[] }
noncomputable def bc (s:Stmt):List Stmt:=match s with
 | .FunctionDef _ _ b _ _ _ _ _ _ _=>b
 | _=>[]
noncomputable def aa (s:Stmt):Scope:=match s with
 | .FunctionDef _ _ _ _ _ _ sc _ _ _=>sc
 | _=>{ kind:=.function,names:=[],isGenerator:=false,isCoroutine:=false }
noncomputable abbrev iR:Hw:=fun _ _ _ _ _ _=>False
noncomputable abbrev E0:XK:=fun _ _ _=>False
theorem K1 {X:Cx}:Passes iR X E0:=fun _ _ _ _ _ _ _ h=>h.elim
structure p6 (K:ab) (x qual:Str) (st:Stmt) (f:Addr) (fd:FuncData):Prop where
 ex:∃(oc:Value) (od:Option Addr) (kV doc pm:Value) (an:Option Addr) (ft ct:Value) (Ab:Array (Option Value)),
  fd=fH x qual (lH st) (bc st) (aa st) .none kV doc pm an ft ct∧K.lookup f=some ⟨oc,od,.func fd,Ab⟩∧i7 K ft qual=true
 kp:dt K (.ref f)=true
section
variable {P:Program} {w:World} {K:ab} {mg:Str→Option Value} {base:Heap}
theorem p6.ok {x qual:Str} {st:Stmt} {f:Addr} {fd:FuncData} {N ps:List Str} {k:Nat} {sp:Sp} (F:p6 K x qual st f fd) (S:aS N ps (aa st)) (len:∀vs H Q E,sp vs H Q E→vs.length=ps.length)
  (KI:∀(ft:Value) (A:Around) (outer:List Env) (s:Shared) (H:Hp) (vs:List V) (Q:VK) (E:XK),kb k (A.deeper (envOfC qual (aa st) s.heap.objs.size f ft))→sp vs H Q E →
   ∃t,wm (iz iR P w K mg base N qual (aa st) f ft A outer s H E).q5 (bc st) t∧t { nx:=fun _ H'=>Q .gH H',rt:=Q } (start N vs) H):eS P w K mg base iR (k+1) f fd ps sp:=by
 obtain ⟨oc,od,kV,doc,pm,an,ft,ct,Ab,rfl,lk,Kk⟩:=F.ex
 refine SQ lk Kk S len fun A outer s H vs Q E hr MV=>?_
 obtain ⟨t,h,q⟩:=KI ft A outer s H vs Q E hr MV
 exact ⟨t,h.q5,q⟩
theorem p6.binds {x qual:Str} {st:Stmt} {f:Addr} {fd:FuncData} {ps:List Str} (F:p6 K x qual st f fd)
  (h:∀(kV doc pm:Value) (an:Option Addr) (ft ct:Value) (us:List Value),us.length=ps.length→bindArgs (fH x qual (lH st) (bc st) (aa st) .none kV doc pm an ft ct) ⟨us,[]⟩=pure (ps.zip us)):Binds K fd ps []:=by
 obtain ⟨oc,od,kV,doc,pm,an,ft,ct,Ab,rfl,lk,Kk⟩:=F.ex
 exact .all (h kV doc pm an ft ct)
theorem Cz {x qual:Str} {st:Stmt} {f:Addr} {oc:Value} {od an:Option Addr} {Ab:Array (Option Value)} {kV doc pm ft ct:Value} (l:K.lookup f=some ⟨oc,od,.func (fH x qual (lH st) (bc st) (aa st) .none kV doc pm an ft ct),Ab⟩)
  (c:i7 K ft qual=true) (k:dt K (.ref f)=true):p6 K x qual st f (fH x qual (lH st) (bc st) (aa st) .none kV doc pm an ft ct):=⟨⟨oc,od,kV,doc,pm,an,ft,ct,Ab,rfl,l,c⟩,k⟩
end
section
variable {X:Cx}
theorem pv (i:Nat) {x:Str} {pos:Pos} (hN:X.N[i]?=some x:=by rfl) (hv:OM X.env.scope x:=by first|exact Or.inl rfl|exact Or.inr (Or.inl rfl)|exact Or.inr (Or.inr rfl)) (hd:(x == ("__debug__" : Str))=false:=by decide)
  (Kk:(x == ("__classdict__" : Str))=false:=by decide):PE X (.Name x pos) (sy i):=Cm hN hv hd Kk
end
noncomputable def bW (H H':Hp):Prop:=∀b o,H b=some o→H' b=some o
theorem bW.trans {H H1 H2:Hp} (a:bW H H1) (b:bW H1 H2):bW H H2:=fun c o h=>b c o (a c o h)
theorem bW.free {H H':Hp} (e:bW H H') {l:Addr} (h:H' l=Option.none):H l=Option.none:=by
 cases q:H l with
 | none=>rfl
 | some o =>
  rw [e l o q] at h
  cases h
theorem bW.seq {K:ab} {H H':Hp} {a:Addr} {xs:List V} (e:bW H H') (h:fo K H a xs):fo K H' a xs:=by
 rcases h with (h|⟨o,h⟩)|h
 ·exact .inl (.inl (e _ _ h))
 ·exact .inl (.inr ⟨o,e _ _ h⟩)
 ·exact .inr h
section
variable {κ:Type} [DecidableEq κ]
end
end L2
section
set_option Elab.async false
set_option linter.all false
set_option maxRecDepth 100000
set_option maxHeartbeats 2000000
namespace L2
open PySem PySem.Spec PyProof.Rows
open PySem.W (WData Codec OpenSpec Well WellAll ReadsW ReadsAllW)
mutual
inductive Dw (K:ab) (H:Hp):V→WData→Prop
 | gH:Dw K H .gH .none
 | bl (b:Bool):Dw K H (.bl b) (.bool b)
 | int (i:Int):Dw K H (.int i) (.int i)
 | str (x:Str):Dw K H (.str x) (.str x)
 | FU (b:Array UInt8):Dw K H (.FU b) (.bytes b.toList)
 | lst {a:Addr} {xs:List V} {ds:List WData}:fo K H a xs→pM K H xs ds→Dw K H (.ref a) (.list ds)
 | tup {a:Addr} {xs:List V} {ds:List WData}:yc K H a xs→pM K H xs ds→Dw K H (.ref a) (.tuple ds)
inductive pM (K:ab) (H:Hp):List V→List WData→Prop
 | nil:pM K H [] []
 | cons {v:V} {vs:List V} {d:WData} {ds:List WData}:Dw K H v d→pM K H vs ds→pM K H (v::vs) (d::ds)
end
theorem HH {K:ab} {H:Hp}:∀ns:List Int,pM K H (ns.map V.int) (ns.map WData.int)
 | []=>.nil
 | n::r=>.cons (.int n) (HH r)
theorem HI {K:ab} {H:Hp}:∀(ns:List Int) (xs:List V),pM K H xs (ns.map WData.int)→xs=ns.map V.int
 | [],xs,h=>by
  cases h
  rfl
 | n::r,xs,h=>by
  cases h with
  | cons h1 h2 =>
   cases h1
   rw [HI r _ h2]<;>rfl
section
variable {P:Program} {w:World} {K:ab} {H:Hp} {h:Heap} {R:ML} {cl:Str→Option Addr}
theorem QD {a:Addr} {xs:List V} (gk:tJ P w H h) (KX:K.In h) (q:fo K H a xs):∃(bU:List Value) (o:Obj) (n:Nat),Vals xs bU∧h.get? a=some o∧o.cls=.type "list" ∧ o.data=.seq bU.toArray n:=by
 rcases q with q|⟨o,bU,n,e,hc,_,hd,_,hv⟩
 ·obtain ⟨_,bU,n,hv,e⟩:=(show jA P w H h a (.lst xs) from q.ok gk)
  exact ⟨bU,_,n,hv,e,rfl,rfl⟩
 ·exact ⟨bU.toList,o,n,hv,KX _ _ e,hc,by simp [hd]⟩
theorem QE {a:Addr} {xs:List V} (gk:tJ P w H h) (KX:K.In h) (q:yc K H a xs):∃(bU:List Value) (o:Obj) (n:Nat),Vals xs bU∧h.get? a=some o∧o.cls=.type "tuple" ∧ o.data=.seq bU.toArray n:=by
 rcases q with q|⟨o,bU,n,e,hc,hd,_,hv⟩
 ·obtain ⟨_,bU,hv,o,e,hc,n,hd⟩:=(show jA P w H h a (.tup xs) from q.ok gk)
  exact ⟨bU,o,n,hv,e,hc,hd⟩
 ·exact ⟨bU.toList,o,n,hv,KX _ _ e,hc,by simp [hd]⟩
mutual
theorem Dw.reads (gk:tJ P w H h) (KX:K.In h):∀(d:WData) (v:V) (u:Value),Dw K H v d→RelV v u→∃as,ReadsW R cl h u d as
 | .none,_,_,x,r=>by
  cases x
  cases r
  exact ⟨_,ReadsW.none⟩
 | .bool b,_,_,x,r=>by
  cases x
  cases r
  exact ⟨_,ReadsW.bool b⟩
 | .int i,_,_,x,r=>by
  cases x
  obtain ⟨t,rfl⟩:=r
  exact ⟨_,ReadsW.int i t⟩
 | .str s,_,_,x,r=>by
  cases x
  obtain ⟨t,rfl⟩:=r
  exact ⟨_,ReadsW.str s t⟩
 | .bytes b,_,_,x,r=>by
  cases x
  obtain ⟨t,rfl⟩:=r
  exact ⟨_,ReadsW.bytes _ t⟩
 | .list ds,_,_,x,r=>by
  cases x with
  | lst hs ha =>
   cases r
   obtain ⟨bU,o,n,rv,ho,hc,hd⟩:=QD gk KX hs
   obtain ⟨as,hr⟩:=Dw.readsAll gk KX ds _ bU ha rv
   exact ⟨_,ReadsW.list ho hc hd hr⟩
 | .tuple ds,_,_,x,r=>by
  cases x with
  | tup hs ha =>
   cases r
   obtain ⟨bU,o,n,rv,ho,hc,hd⟩:=QE gk KX hs
   obtain ⟨as,hr⟩:=Dw.readsAll gk KX ds _ bU ha rv
   exact ⟨_,ReadsW.tuple ho hc hd hr⟩
 | .float _,_,_,x,_=>by cases x
 | .dict _,_,_,x,_=>by cases x
 | .bytearray _,_,_,x,_=>by cases x
 | .set _,_,_,x,_=>by cases x
 | .frozenset _,_,_,x,_=>by cases x
 | .obj _ _,_,_,x,_=>by cases x
theorem Dw.readsAll (gk:tJ P w H h) (KX:K.In h):∀(ds:List WData) (vs:List V) (us:List Value),pM K H vs ds→Vals vs us→∃as,ReadsAllW R cl h us ds as
 | [],_,_,x,r=>by
  cases x
  cases r
  exact ⟨_,ReadsAllW.nil⟩
 | d::ds,_,_,x,r=>by
  cases x with
  | cons h1 h2 =>
   cases r with
   | cons r1 r2 =>
    obtain ⟨as,q1⟩:=Dw.reads gk KX d _ _ h1 r1
    obtain ⟨bs,q2⟩:=Dw.readsAll gk KX ds _ _ h2 r2
    exact ⟨_,ReadsAllW.cons q1 q2⟩
end
end
mutual
noncomputable def HJ:WData→Bool
 | .none=>true
 | .bool _=>true
 | .int _=>true
 | .str _=>true
 | .bytes _=>true
 | .list xs=>wq xs
 | .tuple xs=>wq xs
 | _=>false
noncomputable def wq:List WData→Bool
 | []=>true
 | x::r=>HJ x&&wq r
end
theorem Ej {α:Type} {f:α→WData} (h:∀a,HJ (f a)=true):∀l:List α,wq (l.map f)=true
 | []=>rfl
 | x::r=>by
  show (HJ (f x)&&wq (r.map f))=true
  rw [h x,Ej h r]<;>rfl
theorem qm:∀(c:Codec) (a:c.denote),HJ (c.enc a)=true
 | .unit,_=>rfl
 | .bool,_=>rfl
 | .int _ _,_=>rfl
 | .nat _ _,_=>rfl
 | .u8,_=>rfl
 | .bytes _ _,_=>rfl
 | .text _ _ _ _,_=>rfl
 | .list _ _ c,a=>Ej (fun x=>qm c x) a
 | .pair c d,a=>by
  show (HJ (c.enc a.1)&&(HJ (d.enc a.2)&&true))=true
  rw [qm c a.1,qm d a.2]<;>rfl
 | .triple c d e,a=>by
  show (HJ (c.enc a.1)&&(HJ (d.enc a.2.1)&&(HJ (e.enc a.2.2)&&true)))=true
  rw [qm c a.1,qm d a.2.1,qm e a.2.2]<;>rfl
 | .option c,none=>rfl
 | .option c,some x=>qm c x
theorem BA:∀(cs:List Codec) (a:Codec.denoteAll cs),wq (Codec.encAll cs a)=true
 | [],_=>rfl
 | c::cs,a=>by
  show (HJ (c.enc a.1)&&wq (Codec.encAll cs a.2))=true
  rw [qm c a.1,BA cs a.2]<;>rfl
theorem sG:∀{xs:List WData} {d:WData},d∈xs→d.weight≤WData.weightAll xs
 | [],d,h=>absurd h (by simp)
 | x::r,d,h=>by
  show d.weight≤x.weight+1+WData.weightAll r
  rcases aG.mp h with e|m
  ·rw [e]
   omega
  ·have z:=sG m
   omega
noncomputable def toV:Value→V
 | .none=>.gH
 | .bool b=>.bl b
 | .int i _=>.int i
 | .str x _=>.str x
 | .bytes b _=>.FU b
 | .ref a=>.ref a
 | _=>.gH
noncomputable def Jl (A:List Addr):Value→Prop
 | .none=>True
 | .bool _=>True
 | .int _ _=>True
 | .str _ _=>True
 | .bytes _ _=>True
 | .ref a=>a∈A
 | _=>False
theorem Jl.mono {A B:List Addr} (h:∀a∈A,a∈B):∀{u:Value},Jl A u→Jl B u:=fun {u} x=>by
 cases u with
 | ref a=>exact h a x
 | none=>trivial
 | bool b=>trivial
 | int i t=>trivial
 | str s t=>trivial
 | bytes b t=>trivial
 | _=>exact False.elim x
theorem K2 {A:List Addr} {u:Value} (x:Jl A u):RelV (toV u) u:=by
 cases u with
 | ref a=>rfl
 | none=>rfl
 | bool b=>rfl
 | int i t=>exact ⟨t,rfl⟩
 | str s t=>exact ⟨t,rfl⟩
 | bytes b t=>exact ⟨t,rfl⟩
 | _=>exact False.elim x
theorem oA {A:List Addr}:∀{vs:List Value},(∀u∈vs,Jl A u)→Vals (vs.map toV) vs
 | [],_=>.nil
 | u::r,h=>.cons (K2 (h u (cg ..))) (oA fun x hx=>h x (bu _ hx))
noncomputable def pN (h:Heap) (A:List Addr) (a:Addr):Prop:=∃vs:List Value,vs.length≤sizeLine∧(∀u∈vs,Jl A u) ∧
 (h.get? a=some { cls:=.type "list",data:=.seq vs.toArray }∨h.get? a=some { cls:=.type "tuple",data:=.seq vs.toArray })
theorem pN.mono {h:Heap} {A B:List Addr} {a:Addr} (k:∀a∈A,a∈B) (x:pN h A a):pN h B a:=by
 obtain ⟨vs,h1,h2,h3⟩:=x
 exact ⟨vs,h1,fun u hu=>(h2 u hu).mono k,h3⟩
theorem mZ {P:Params} {h:Heap}:∀{vs:List Value} {ds:List WData},WellAll P h vs ds→vs.length=ds.length
 | _,_,.nil=>rfl
 | _,_,.cons _ b=>by
  show _+1=_+1
  rw [mZ b]
theorem BB {P:Params} {h:Heap} {v:Value} {ds:List WData} (x:Well P h v (.list ds)):∃(a:Addr) (vs:List Value),v=.ref a∧h.get? a=some { cls:=.type "list",data:=.seq vs.toArray }∧WellAll P h vs ds:=by
 cases x with
 | list ho rN=>exact ⟨_,_,rfl,ho,rN⟩
theorem yk {P:Params} {h:Heap} {v:Value} {ds:List WData} (x:Well P h v (.tuple ds)):∃(a:Addr) (vs:List Value),v=.ref a∧h.get? a=some { cls:=.type "tuple",data:=.seq vs.toArray }∧WellAll P h vs ds:=by
 cases x with
 | tuple ho rN=>exact ⟨_,_,rfl,ho,rN⟩
theorem BC {P:Params} {h:Heap} {us:List Value} {d:WData} {ds:List WData} (x:WellAll P h us (d::ds)):∃(v:Value) (vs:List Value),us=v::vs∧Well P h v d∧WellAll P h vs ds:=by
 cases x with
 | cons a b=>exact ⟨_,_,rfl,a,b⟩
theorem HK {n:Nat} (h:n≤1048576):n≤sizeLine:=aP h (by decide)
section
variable {P:Params} {h:Heap}
mutual
theorem K3:∀(d:WData) (v:Value),Well P h v d→HJ d=true→d.weight≤1048576→∃A:List Addr,Jl A v∧∀a∈A,pN h A a
 | .none,_,x,_,_=>by
  cases x
  exact ⟨[],trivial,fun a m=>absurd m (by simp)⟩
 | .bool b,_,x,_,_=>by
  cases x
  exact ⟨[],trivial,fun a m=>absurd m (by simp)⟩
 | .int i,_,x,_,_=>by
  cases x
  exact ⟨[],trivial,fun a m=>absurd m (by simp)⟩
 | .str s,_,x,_,_=>by
  cases x
  exact ⟨[],trivial,fun a m=>absurd m (by simp)⟩
 | .bytes b,_,x,_,_=>by
  cases x
  exact ⟨[],trivial,fun a m=>absurd m (by simp)⟩
 | .list ds,_,x,p,z=>by
  obtain ⟨a,vs,rfl,ho,rN⟩:=BB x
  have z2:WData.weightAll ds≤1048576:=z
  obtain ⟨A,h1,h2⟩:=tT ds _ rN p fun d hd=>aP (sG hd) z2
  have k:∀b∈A,b∈a::A:=fun b hb=>bu _ hb
  refine ⟨a::A,cg ..,fun b hb=>?_⟩
  rcases aG.mp hb with e|m
  ·rw [e]
   exact ⟨vs,HK (by rw [mZ rN];exact aP (z_ ds) z2),fun u hu=>(h1 u hu).mono k,.inl ho⟩
  ·exact (h2 b m).mono k
 | .tuple ds,_,x,p,z=>by
  obtain ⟨a,vs,rfl,ho,rN⟩:=yk x
  have z2:WData.weightAll ds≤1048576:=z
  obtain ⟨A,h1,h2⟩:=tT ds _ rN p fun d hd=>aP (sG hd) z2
  have k:∀b∈A,b∈a::A:=fun b hb=>bu _ hb
  refine ⟨a::A,cg ..,fun b hb=>?_⟩
  rcases aG.mp hb with e|m
  ·rw [e]
   exact ⟨vs,HK (by rw [mZ rN];exact aP (z_ ds) z2),fun u hu=>(h1 u hu).mono k,.inr ho⟩
  ·exact (h2 b m).mono k
 | .float _,_,_,p,_=>cR (show false=true from p)
 | .dict _,_,_,p,_=>cR (show false=true from p)
 | .bytearray _,_,_,p,_=>cR (show false=true from p)
 | .set _,_,_,p,_=>cR (show false=true from p)
 | .frozenset _,_,_,p,_=>cR (show false=true from p)
 | .obj _ _,_,_,p,_=>cR (show false=true from p)
theorem tT:∀(ds:List WData) (vs:List Value),WellAll P h vs ds→wq ds=true→(∀d∈ds,d.weight≤1048576)→∃A:List Addr,(∀u∈vs,Jl A u)∧∀a∈A,pN h A a
 | [],_,x,_,_=>by
  cases x
  exact ⟨[],fun u m=>absurd m (by simp),fun a m=>absurd m (by simp)⟩
 | d::ds,_,x,p,z=>by
  obtain ⟨v,vs,rfl,x1,x2⟩:=BC x
  have q:HJ d=true∧wq ds=true:=Ka.mp p
  obtain ⟨A,a1,a2⟩:=K3 d v x1 q.1 (z d (cg ..))
  obtain ⟨B,b1,b2⟩:=tT ds vs x2 q.2 fun e he=>z e (bu _ he)
  have kA:∀b∈A,b∈A++B:=fun b hb=>bG.mpr (.inl hb)
  have kB:∀b∈B,b∈A++B:=fun b hb=>bG.mpr (.inr hb)
  refine ⟨A++B,fun u hu=>?_,fun b hb=>?_⟩
  ·rcases aG.mp hu with e|m
   ·rw [e]
    exact a1.mono kA
   ·exact (b1 u m).mono kB
  ·rcases bG.mp hb with m|m
   ·exact (a2 b m).mono kA
   ·exact (b2 b m).mono kB
end
end
noncomputable def NR (o:Obj):Option HO:=match o.data with
 | .seq vs _=>if (o.cls == Value.type "list")=true then some (.Ci o (.lst (vs.toList.map toV))) else some (.Ci o (.tup (vs.toList.map toV)))
 | _=>none
noncomputable def oS (K:ab) (h:Heap) (A:List Addr):Hp:=fun b=>if b∈A then (if (K.lookup b).isNone=true then (h.get? b).bind NR else none) else none
noncomputable def Ek (H:Hp):Prop:=∀b,H b=none∨∃o u,H b=some (.Ci o u)
theorem El (vs:List Value):NR { cls:=.type "list",data:=.seq vs.toArray }=some (.Ci { cls:=.type "list",data:=.seq vs.toArray } (.lst (vs.map toV))):=by
 show (if (Value.type "list" == Value.type "list")=true then some (HO.Ci { cls:=.type "list",data:=.seq vs.toArray } (.lst (vs.toArray.toList.map toV))) else some (HO.Ci { cls:=.type "list",data:=.seq vs.toArray } (.tup (vs.toArray.toList.map toV))))=_
 rw [if_pos (beq_self_eq_true _)]
theorem Em (vs:List Value):NR { cls:=.type "tuple",data:=.seq vs.toArray }=some (.Ci { cls:=.type "tuple",data:=.seq vs.toArray } (.tup (vs.map toV))):=by
 show (if (Value.type "tuple" == Value.type "list")=true then some (HO.Ci { cls:=.type "tuple",data:=.seq vs.toArray } (.lst (vs.toArray.toList.map toV))) else some (HO.Ci { cls:=.type "tuple",data:=.seq vs.toArray } (.tup (vs.toArray.toList.map toV))))=_
 rw [if_neg (by decide)]
section
variable {P:Program} {w:World} {K:ab} {h:Heap} {A:List Addr}
theorem xy {b:Addr} {o:Obj} (hb:b∈A) (hk:K.lookup b=none) (e:h.get? b=some o):oS K h A b=NR o:=by
 unfold oS
 rw [if_pos hb,hk,if_pos (show (none:Option Obj).isNone=true from rfl),e]<;>rfl
theorem NS {b:Addr} {u:HO} (q:oS K h A b=some u):b∈A∧K.lookup b=none:=by
 unfold oS at q
 by_cases hb:b∈A
 ·rw [if_pos hb] at q
  cases hk:K.lookup b with
  | none=>exact ⟨hb,rfl⟩
  | some o =>
   rw [hk,if_neg (by simp)] at q
   cases q
 ·rw [if_neg hb] at q
  cases q
theorem xA (ar:∀a∈A,pN h A a) {b:Addr} {u:HO} (q:oS K h A b=some u):K.lookup b=none∧∃vs:List Value,vs.length≤sizeLine∧(∀u∈vs,Jl A u) ∧
  ((h.get? b=some { cls:=.type "list",data:=.seq vs.toArray }∧u=.Ci { cls:=.type "list",data:=.seq vs.toArray } (.lst (vs.map toV))) ∨
   (h.get? b=some { cls:=.type "tuple",data:=.seq vs.toArray }∧u=.Ci { cls:=.type "tuple",data:=.seq vs.toArray } (.tup (vs.map toV)))):=by
 obtain ⟨hb,hk⟩:=NS q
 obtain ⟨vs,h1,h2,h3⟩:=ar b hb
 refine ⟨hk,vs,h1,h2,?_⟩
 rcases h3 with e|e
 ·rw [xy hb hk e,El] at q
  exact .inl ⟨e,(bC.inj q).symm⟩
 ·rw [xy hb hk e,Em] at q
  exact .inr ⟨e,(bC.inj q).symm⟩
theorem Jm (ar:∀a∈A,pN h A a):Ek (oS K h A):=fun b=>by
 cases q:oS K h A b with
 | none=>exact .inl rfl
 | some u =>
  obtain ⟨_,vs,_,_,⟨_,e⟩|⟨_,e⟩⟩:=xA ar q
  ·exact .inr ⟨_,_,by rw [e]⟩
  ·exact .inr ⟨_,_,by rw [e]⟩
theorem NT (ar:∀a∈A,pN h A a):tJ P w (oS K h A) h:=fun b u q=>by
 obtain ⟨_,vs,h1,h2,⟨e,rfl⟩|⟨e,rfl⟩⟩:=xA ar q
 ·exact ⟨e,by rw [ah];exact h1,vs,_,oA h2,e⟩
 ·exact ⟨e,by rw [ah];exact h1,vs,oA h2,_,e,rfl,_,rfl⟩
theorem xB {c c':Value} {vs us:List Value} (e:(some { cls:=c,data:=.seq vs.toArray }:Option Obj)=some { cls:=c',data:=.seq us.toArray }):c=c'∧vs=us:=by
 have e1:=bC.inj e
 have e2:c=c':=congrArg Obj.cls e1
 have e3:Data.seq vs.toArray=Data.seq us.toArray:=congrArg Obj.data e1
 injection e3 with e4
 refine ⟨e2,?_⟩
 have e5:=congrArg Array.toList e4
 simpa using e5
theorem WU (KX:K.In h) (ar:∀a∈A,pN h A a) {a:Addr} {vs:List Value} (ha:a∈A) (e:h.get? a=some { cls:=.type "list",data:=.seq vs.toArray }):(∀u∈vs,Jl A u)∧fo K (oS K h A) a (vs.map toV):=by
 obtain ⟨us,h1,h2,h3⟩:=ar a ha
 have hu:us=vs:=by
  rcases h3 with q|q
  ·rw [e] at q
   exact (xB q).2.symm
  ·rw [e] at q
   exact absurd (Value.type.inj (xB q).1) (by decide)
 subst hu
 refine ⟨h2,?_⟩
 cases hk:K.lookup a with
 | none=>exact .inl (.inr ⟨_,by rw [xy ha hk e,El]⟩)
 | some o =>
  have e2:=KX a o hk
  rw [e] at e2
  obtain rfl:=bC.inj e2
  exact .inr ⟨_,us.toArray,_,hk,rfl,rfl,rfl,by rw [aJ];exact h1,by simpa using oA h2⟩
theorem WV (KX:K.In h) (ar:∀a∈A,pN h A a) {a:Addr} {vs:List Value} (ha:a∈A) (e:h.get? a=some { cls:=.type "tuple",data:=.seq vs.toArray }):(∀u∈vs,Jl A u)∧yc K (oS K h A) a (vs.map toV):=by
 obtain ⟨us,h1,h2,h3⟩:=ar a ha
 have hu:us=vs:=by
  rcases h3 with q|q
  ·rw [e] at q
   exact absurd (Value.type.inj (xB q).1) (by decide)
  ·rw [e] at q
   exact (xB q).2.symm
 subst hu
 refine ⟨h2,?_⟩
 cases hk:K.lookup a with
 | none=>exact .inl (.inr ⟨_,by rw [xy ha hk e,Em]⟩)
 | some o =>
  have e2:=KX a o hk
  rw [e] at e2
  obtain rfl:=bC.inj e2
  exact .inr ⟨_,us.toArray,_,hk,rfl,rfl,by rw [aJ];exact h1,by simpa using oA h2⟩
mutual
theorem QF {Pm:Params} (KX:K.In h) (ar:∀a∈A,pN h A a):∀(d:WData) (v:Value),Well Pm h v d→HJ d=true→Jl A v→Dw K (oS K h A) (toV v) d
 | .none,_,x,_,_=>by
  cases x
  exact .gH
 | .bool b,_,x,_,_=>by
  cases x
  exact .bl b
 | .int i,_,x,_,_=>by
  cases x
  exact .int i
 | .str s,_,x,_,_=>by
  cases x
  exact .str s
 | .bytes b,_,x,_,_=>by
  cases x
  have z:=Dw.FU (K:=K) (H:=oS K h A) b.toArray
  exact z
 | .list ds,_,x,p,hu=>by
  obtain ⟨a,vs,rfl,ho,rN⟩:=BB x
  obtain ⟨h2,hs⟩:=WU KX ar hu ho
  exact .lst hs (CA KX ar ds _ rN p h2)
 | .tuple ds,_,x,p,hu=>by
  obtain ⟨a,vs,rfl,ho,rN⟩:=yk x
  obtain ⟨h2,hs⟩:=WV KX ar hu ho
  exact .tup hs (CA KX ar ds _ rN p h2)
 | .float _,_,_,p,_=>cR (show false=true from p)
 | .dict _,_,_,p,_=>cR (show false=true from p)
 | .bytearray _,_,_,p,_=>cR (show false=true from p)
 | .set _,_,_,p,_=>cR (show false=true from p)
 | .frozenset _,_,_,p,_=>cR (show false=true from p)
 | .obj _ _,_,_,p,_=>cR (show false=true from p)
theorem CA {Pm:Params} (KX:K.In h) (ar:∀a∈A,pN h A a):∀(ds:List WData) (vs:List Value),WellAll Pm h vs ds→wq ds=true→(∀u∈vs,Jl A u)→pM K (oS K h A) (vs.map toV) ds
 | [],_,x,_,_=>by
  cases x
  exact .nil
 | d::ds,_,x,p,hu=>by
  obtain ⟨v,vs,rfl,x1,x2⟩:=BC x
  have q:HJ d=true∧wq ds=true:=Ka.mp p
  exact .cons (QF KX ar d v x1 q.1 (hu _ (cg ..))) (CA KX ar ds vs x2 q.2 fun u m=>hu u (bu _ m))
end
end
theorem Jn {P:Program} {w:World} {K:ab} {mg mb:Str→Option Value} {CX:Hw} {k:Nat} {fa:Addr} {fd:FuncData} {ps:List Str} {sp:Sp} {fQ:Shared} {vals:List Value} {ds:List WData} {R:ML} {cl:Str→Option Addr} {d0:WData}
  (KX:K.In fQ.heap) (Vi:fQ.heap.Ns mainGlobals mg) (hb:fQ.heap.Ns builtinsNs mb) (Z0:∀x:Str,x ≠ "__name__" → mb x=bootBuiltins x) (WW:fQ.heap.NoLimit) (hg:fQ.gens=#[])
  (QG:WellAll w.params fQ.heap vals ds) (Je:wq ds=true) (Z1:∀d∈ds,d.weight≤1048576) (hr:kb k callerA)
  (F:∀base:Heap,K.In base→base.Ns mainGlobals mg→eS P w K mg base CX k fa fd ps sp) (Tb:∀(s:Shared) (us:List Value),us.length=ps.length→BindsTo s fd ⟨us,[]⟩ (ps.zip us)) (hlen:ds.length=ps.length)
  (MV:∀(H:Hp) (xs:List V),Ek H→pM K H xs ds→sp xs H (fun v H'=>Dw K H' v d0) fun _ _ _=>False)
  (Tc:∀H e s',CX [] H fQ (fun _ _ _=>False) e s'→False) :
  codeAny (model P w) callerA (.call (.ref fa) ⟨vals,[]⟩) (fun r s'=>∃u as,r=.ok (.ret u)∧ReadsW R cl s'.heap u d0 as∧OldK fQ.heap s'.heap∧s'.os=fQ.os∧AllBare s'.gens) fQ:=by
 obtain ⟨A,ho,ar⟩:=tT ds vals QG Je Z1
 have hO:Ek (oS K fQ.heap A):=Jm ar
 have gk:tJ P w (oS K fQ.heap A) fQ.heap:=NT ar
 have hS:=CA KX ar ds vals QG Je ho
 have hV:=oA ho
 have hK:∀b u,oS K fQ.heap A b=some u→K.lookup b=none:=fun b u q=>(xA ar q).1
 have RS:∀{b:Addr} {o:Obj} {es:Array DictEntry} {ep:Nat},fQ.heap.get? b=some o→o.data=.dict es ep→oS K fQ.heap A b=none:=fun {b o es ep} e d=>by
  cases q:oS K fQ.heap A b with
  | none=>rfl
  | some u =>
   obtain ⟨_,vs,_,_,⟨e2,_⟩|⟨e2,_⟩⟩:=xA ar q
   ·rw [e2] at e
    cases e
    have d':Data.seq vs.toArray _=Data.dict es ep:=d
    cases d'
   ·rw [e2] at e
    cases e
    have d':Data.seq vs.toArray _=Data.dict es ep:=d
    cases d'
 generalize oS K fQ.heap A=H at hO gk hS hK RS
 have HL:∀{b:Addr} {o:Obj},fQ.heap.get? b=some o→H b=none→(Ck fQ.heap H).get? b=some o:=fun e n=>Ke e n
 have Vj:∀{b:Addr} {m:Str→Option Value},fQ.heap.Ns b m→(Ck fQ.heap H).Ns b m:=fun {b m} ⟨o,es,ep,e,d,r⟩=>⟨o,es,ep,HL e (RS e d),d,r⟩
 have nK:∀b o,K.lookup b=some o→H b=none:=fun b o e=>by
  cases q:H b with
  | none=>rfl
  | some u =>
   rw [hK b u q] at e
   cases e
 have Yo:K.In (Ck fQ.heap H):=fun b o e=>HL (KX b o e) (nK b o e)
 have hM:Mod K mg (Ck fQ.heap H):=⟨Yo,Vj Vi,⟨mb,Vj hb,Z0⟩,let ⟨mc,h1,h2⟩:=WW;⟨mc,Vj h1,h2⟩⟩
 have e0:Ah P w K mg (Ck fQ.heap H) callerA [] fQ H:=⟨rfl,hM,fun b o e=>Ng e,z7 (IW _ _),trivial,fun b hb=>absurd (show b∈([]:List Addr) from hb) (by simp),gk,.of_eq hg⟩
 have hl:vals.length=ps.length:=by rw [mZ QG];exact hlen
 refine codeAny_mono ((F _ Yo (Vj Vi)).run callerA [] fQ H ⟨vals,[]⟩ vals (vals.map toV) _ _ hr e0 (Tb fQ vals hl) hV (MV H _ hO hS)) fun r s' x=>?_
 cases r with
 | error e=>exact (Tc H e s' x).elim
 | ok fl =>
  cases fl with
  | next=>exact False.elim x
  | brk=>exact False.elim x
  | cont=>exact False.elim x
  | ret u =>
   obtain ⟨v,H',os,bare,un,Td,r',q⟩:=x
   have kept:∀b o,fQ.heap.get? b=some o→s'.heap.get? b=some o:=fun b o e=>by
    cases q2:H b with
    | none=>exact un.keep b o e q2 (by intro z;exact absurd (show b∈([]:List Addr) from z) (by simp)) (by simp)
    | some u2 =>
     rcases hO b with z|⟨ob,u3,z⟩
     ·rw [q2] at z
      cases z
     ·have z2:=un.Cj b ob _ z
      obtain ⟨e1,_⟩:=gk b _ z
      obtain ⟨e2,_⟩:=Td b _ z2
      rw [e] at e1
      cases e1
      exact e2
   have Z2:K.In s'.heap:=fun b o e=>kept b o (KX b o e)
   obtain ⟨as,Yp⟩:=Dw.reads (R:=R) (cl:=cl) Td Z2 d0 v u q r'
   exact ⟨u,as,rfl,Yp,OldK.of_keep kept,os,bare⟩
theorem yl {ds:List WData} (h:WData.layableAll ds=true):∀d∈ds,d.weight≤1048576:=fun d hd =>
 (PySem.W.layableW_iff.mp (aZ.mp h d hd)).2.2
theorem ym:∀(cs:List Codec) (a:Codec.denoteAll cs),(Codec.encAll cs a).length=cs.length
 | [],_=>rfl
 | c::cs,a=>by
  show (Codec.encAll cs a.2).length+1=cs.length+1
  rw [ym cs a.2]
theorem Jo {r:OpenSpec} {k:Nat} {q:Program} {loose:List Str} {XP:(Str→Option Value)→Heap→Prop} {YP:World→Heap→Prop} {d:DefRec} {K:Params→ab} {CX:World→Hw} {ps:List Str} {sp:World→Sp}
  (K4:r.wellSaid=true) (Yq:d.params.defaults=[]) (hlen:r.args.length=ps.length) (hr:kb k callerA)
  (hY:∀(w:World) (h:Heap),YP w h→(K w.params).In h)
  (F:∀(w:World) (mg:Str→Option Value) (fa:Addr) (h:Heap),YP w h→(K w.params).In h→h.Ns mainGlobals mg→mg d.name=some (.ref fa) →
   ∃fd:FuncData,(∀(s:Shared) (us:List Value),us.length=ps.length→BindsTo s fd ⟨us,[]⟩ (ps.zip us)) ∧
    ∀base:Heap,(K w.params).In base→base.Ns mainGlobals mg→eS r.prog w (K w.params) mg base (CX w) k fa fd ps (sp w))
  (MV:∀(w:World) (H:Hp) (xs:List V) (a:Codec.denoteAll r.args),Ek H→Codec.withinAll r.args a=true→Codec.app r.args r.asked a=true→pM (K w.params) H xs (Codec.encAll r.args a) →
   sp w xs H (fun v H'=>Dw (K w.params) H' v (r.ret.enc (Codec.app r.args r.f a))) fun _ _ _=>False)
  (Tc:∀(w:World) (H:Hp) (s:Shared) (e:Value) (s':Shared),CX w [] H s (fun _ _ _=>False) e s'→False) :
  OI q loose XP YP r d [] (fun f vs=>PySem.call f vs):=by
 intro w Bt fQ mg mb G Y fa o pm cd doc dV kV ho hd Kk hD WX hg args vals as NU WY Yp QG WZ
 obtain ⟨a,e1,e2⟩:=PySem.W.os_pre_some NU
 obtain ⟨e3,W0⟩:=Codec.encAll_of_decAll r.args args a e1
 subst e3
 have KX:=hY w _ Y
 obtain ⟨fd,hb,hF⟩:=F w mg fa _ Y KX G.T.g WX
 refine PySem.W.enter_call (codeAny_mono (Jn (R:=[]) (cl:=classAt Bt.heap) (d0:=r.ret.enc (Codec.app r.args r.f a)) KX G.T.g G.T.b G.T.builtins G.T.nolimit hg QG (BA _ _) (yl WY) hr hF hb (by rw [ym];exact hlen)
  (fun H xs hO hS=>MV w H xs a hO W0 e2 hS) fun H e s'=>Tc w H fQ e s') fun r' s' hq=>?_)
 obtain ⟨u,Z3,rfl,h1,h2,h3,h4⟩:=hq
 exact ⟨.inl ⟨u,_,Z3,rfl,fun _=>rfl,h1,(OpenSpec.post_iff K4 W0 _ _).mpr rfl,fun z=>cR (show false=true from z)⟩,h2,h3,h4⟩
theorem Gm {r:OpenSpec} {k:Nat} {q:Program} {loose:List Str} {XP:(Str→Option Value)→Heap→Prop} {YP:World→Heap→Prop} {d:DefRec} {K:Params→ab} {CX:Hw} {ps:List Str} {sp:ab→Sp}
  (K4:r.wellSaid=true) (Yq:d.params.defaults=[]) (hlen:r.args.length=ps.length) (hr:kb k callerA)
  (hY:∀(w:World) (h:Heap),YP w h→(K w.params).In h)
  (F:∀(w:World) (mg:Str→Option Value) (fa:Addr) (h:Heap),YP w h→(K w.params).In h→h.Ns mainGlobals mg→mg d.name=some (.ref fa) →
   ∃fd:FuncData,(∀(s:Shared) (us:List Value),us.length=ps.length→BindsTo s fd ⟨us,[]⟩ (ps.zip us)) ∧
    ∀base:Heap,(K w.params).In base→base.Ns mainGlobals mg→eS r.prog w (K w.params) mg base CX k fa fd ps (sp (K w.params)))
  (MV:∀(K:ab) (H:Hp) (xs:List V) (a:Codec.denoteAll r.args),Ek H→Codec.withinAll r.args a=true→Codec.app r.args r.asked a=true→pM K H xs (Codec.encAll r.args a) →
   sp K xs H (fun v H'=>Dw K H' v (r.ret.enc (Codec.app r.args r.f a))) fun _ _ _=>False)
  (Tc:∀(H:Hp) (s:Shared) (e:Value) (s':Shared),CX [] H s (fun _ _ _=>False) e s'→False) :
  OI q loose XP YP r d [] (fun f vs=>PySem.call f vs) :=
 Jo (K:=K) (CX:=fun _=>CX) (sp:=fun w=>sp (K w.params)) K4 Yq hlen hr hY F (fun w H xs a h1 h2 h3 h4=>MV (K w.params) H xs a h1 h2 h3 h4) fun _ H s e s'=>Tc H s e s'
end L2
end
section
set_option Elab.async false
set_option maxRecDepth 100000
set_option maxRecDepth 100000
set_option maxHeartbeats 2000000
namespace Mi
open PySem
inductive D where
 | gH|bl (b:Bool)|int (i:Int)|lst (l:List D)|tup (l:List D)|obj (ns:List Str) (ds:List D)|any
inductive O2 where
 | add|sub|mul|fdiv|mod|shl|bor|band|lt|le|gt|ge|eq|ne|isin|r8
inductive O1 where
 | neg|len|all|any|sum|rev|list
inductive Tg where
 | nm (i:Nat)|tp (l:List Nat)
noncomputable def Tg.slots:Tg→List Nat
 | .nm i=>[i]
 | .tp l=>l
mutual
inductive E where
 | var (i:Nat)|int (z:Int)|bl (b:Bool)|gH
 | gl (x:Str) (d:D)
 | op (o:O2) (a b:E)|un (o:O1) (a:E)|not (a:E)|and (l:Es)|or (l:Es)|ite (c a b:E)
 | fld (a:E) (f:Str)|call (f:Str) (g:List D→Option D) (l:Es)
 | lst (l:Es)|tup (l:Es)
 | ix (a b:E)|sl (a:E) (lo hi:Oe)|step (a lo st:E)|cnt (a b:E)
 | comp (t:Tg) (it:It) (c:Oe) (e:E)
inductive Es where
 | nil|cons (a:E) (r:Es)
inductive Oe where
 | no|yes (a:E)
inductive It where
 | lst (a:E)|pW (a:E)|En (a b:E)|enum (a:E)|zip (a b:E)|rev (a:E)
end
noncomputable abbrev eM:=List (Option D)
noncomputable def fR:eM→Nat→Option D
 | [],_=>none
 | x::_,0=>x
 | _::r,n+1=>fR r n
noncomputable def sJ:eM→Nat→Option D→eM
 | [],_,_=>[]
 | _::r,0,y=>y::r
 | x::r,n+1,y=>x::sJ r n y
noncomputable def jB (ρ:eM):List Nat→eM
 | []=>ρ
 | v::vs=>sJ (jB ρ vs) v none
noncomputable def BD:List Nat→List D→eM→Option eM
 | [],[],ρ=>some ρ
 | i::is,d::ds,ρ=>BD is ds (sJ ρ i (some d))
 | _,_,_=>none
noncomputable def Jp:Tg→D→eM→Option eM
 | .nm i,d,ρ=>some (sJ ρ i (some d))
 | .tp l,.tup ds,ρ=>BD l ds ρ
 | .tp _,_,_=>none
noncomputable def intsOf:List D→Option (List Int)
 | []=>some []
 | .int i::r=>(intsOf r).bind fun l=>some (i::l)
 | _::_=>none
noncomputable def lB:List D→Option (List Bool)
 | []=>some []
 | .bl i::r=>(lB r).bind fun l=>some (i::l)
 | _::_=>none
noncomputable def Te:D→D→Option Bool
 | .int i,.int j=>some (decide (i=j))
 | .bl i,.bl j=>some (decide (i=j))
 | .lst a,.lst b=>(intsOf a).bind fun x=>(intsOf b).bind fun y=>some (decide (x=y))
 | _,_=>none
noncomputable def inD:D→D→Option Bool
 | .int i,.lst b=>(intsOf b).bind fun y=>some (decide (i∈y))
 | .int i,.tup b=>(intsOf b).bind fun y=>some (decide (i∈y))
 | _,_=>none
noncomputable def i9:O2→D→D→Option D
 | .add,.int i,.int j=>some (.int (i+j))
 | .add,.lst a,.lst b=>if a.length+b.length≤sizeLine then some (.lst (a++b)) else none
 | .sub,.int i,.int j=>some (.int (i - j))
 | .mul,.int i,.int j=>if (-(2 ^ 64) < i∧i < 2 ^ 64) then some (.int (i*j)) else none
 | .mul,.lst a,.int k=>if k < 2 ^ 24∧-(2 ^ 24) < k∧a.length*k.toNat≤sizeLine then some (.lst (aH k.toNat a).flatten) else none
 | .fdiv,.int i,.int j=>if 0 < j∧j < 1073741824 then some (.int (i / j)) else none
 | .mod,.int i,.int j=>if 0 < j then some (.int (i % j)) else none
 | .shl,.int i,.int j=>if 0≤j∧j≤1000000∧i.natAbs < 2 ^ 64 then some (.int (i*2 ^ j.toNat)) else none
 | .bor,.int i,.int j=>some (.int (Builtin.bitOr i j))
 | .band,.int i,.int j=>some (.int (Builtin.bitAnd i j))
 | .lt,.int i,.int j=>some (.bl (decide (i < j)))
 | .le,.int i,.int j=>some (.bl (decide (i≤j)))
 | .gt,.int i,.int j=>some (.bl (decide (j < i)))
 | .ge,.int i,.int j=>some (.bl (decide (j≤i)))
 | .eq,a,b=>(Te a b).bind fun c=>some (.bl c)
 | .ne,a,b=>(Te a b).bind fun c=>some (.bl (!c))
 | .isin,a,b=>(inD a b).bind fun c=>some (.bl c)
 | .r8,a,b=>(inD a b).bind fun c=>some (.bl (!c))
 | _,_,_=>none
noncomputable def vU:O1→D→Option D
 | .neg,.int i=>some (.int (-i))
 | .len,.lst l=>some (.int l.length)
 | .len,.tup l=>some (.int l.length)
 | .all,.lst l=>(lB l).bind fun b=>some (.bl (b.all id))
 | .any,.lst l=>(lB l).bind fun b=>some (.bl (b.any id))
 | .sum,.lst l=>(intsOf l).bind fun b=>some (.int b.sum)
 | .rev,.lst l=>some (.lst l.reverse)
 | .list,.lst l=>some (.lst l)
 | .list,.tup l=>if l.length≤sizeLine then some (.lst l) else none
 | _,_=>none
noncomputable def K5:D→Option D
 | .bl b=>some (.bl !b)
 | _=>none
noncomputable def look (f:Str):List Str→List D→Option D
 | n::ns,d::ds=>if n=f then some d else look f ns ds
 | _,_=>none
noncomputable def qo:D→Str→Option D
 | .obj ns ds,f=>look f ns ds
 | _,_=>none
noncomputable def RY:List D→Int→Option D
 | l,.ofNat k=>l[k]?
 | _,_=>none
noncomputable def Gn:D→D→Option D
 | .lst l,.int i=>RY l i
 | .tup l,.int i=>RY l i
 | _,_=>none
noncomputable def RZ (n d:Nat):Option Int→Option Nat
 | none=>some d
 | some (.ofNat k)=>some (min k n)
 | _=>none
noncomputable def J7:D→Option Int→Option Int→Option D
 | .lst l,lo,hi=>(RZ l.length 0 lo).bind fun a=>(RZ l.length l.length hi).bind fun b=>some (.lst ((l.drop a).take (b - a)))
 | _,_,_=>none
noncomputable def pick (l:List D) (i k:Nat):List D:=(sliceRange (min i l.length:Nat) (l.length:Nat) (k:Nat)).filterMap fun j=>l[j]?
noncomputable def Eo:D→D→D→Option D
 | .lst l,.int (.ofNat i),.int (.ofNat k)=>if 0 < k∧(pick l i k).length≤sizeLine then some (.lst (pick l i k)) else none
 | _,_,_=>none
noncomputable def Jq:D→D→Option D
 | .lst l,.int i=>(intsOf l).bind fun x=>some (.int (x.count i:Nat))
 | _,_=>none
noncomputable def oB:Nat→List D→List D
 | _,[]=>[]
 | k,d::r=>.tup [.int k,d]::oB (k+1) r
noncomputable def sL:List D→List D→List D
 | a::r,b::q=>.tup [a,b]::sL r q
 | _,_=>[]
noncomputable def tU (lo:Int):Nat→List D
 | 0=>[]
 | n+1=>.int lo::tU (lo+1) n
noncomputable def i_ (c:eM→Option Bool) (e:eM→Option D) (t:Tg) (ρ:eM):List D→Option (List D)
 | []=>some []
 | d::r=>(Jp t d ρ).bind fun Tf=>(c Tf).bind fun b=>match b with
  | true=>(e Tf).bind fun x=>(i_ c e t ρ r).bind fun xs=>some (x::xs)
  | false=>i_ c e t ρ r
noncomputable def fU:D→Option Bool
 | .bl b=>some b
 | _=>none
noncomputable def intOf:D→Option Int
 | .int i=>some i
 | _=>none
noncomputable def NV:D→Option (List D)
 | .lst l=>some l
 | _=>none
noncomputable def itR (lo:Int):D→Option (List D)
 | .int j=>if -(2 ^ 24) < lo∧lo < 2 ^ 24∧-(2 ^ 24) < j∧j < 2 ^ 24∧(j - lo).toNat≤sizeLine then some (tU lo (j - lo).toNat) else none
 | _=>none
noncomputable def Gp:D→D→Option (List D)
 | .int i,d=>itR i d
 | _,_=>none
noncomputable def Vk:D→D→Option (List D)
 | .lst a,.lst b=>some (sL a b)
 | _,_=>none
mutual
noncomputable def bH:E→eM→Option D
 | .var i,ρ=>fR ρ i
 | .int z,_=>some (.int z)
 | .bl b,_=>some (.bl b)
 | .gH,_=>some .gH
 | .gl _ d,_=>some d
 | .op o a b,ρ=>(bH a ρ).bind fun x=>(bH b ρ).bind fun y=>i9 o x y
 | .un o a,ρ=>(bH a ρ).bind fun x=>vU o x
 | .not a,ρ=>(bH a ρ).bind fun x=>K5 x
 | .and l,ρ=>r9 l ρ
 | .or l,ρ=>Ak l ρ
 | .ite c a b,ρ=>(bH c ρ).bind fun x=>(fU x).bind fun k=>match k with
  | true=>bH a ρ
  | false=>bH b ρ
 | .fld a f,ρ=>(bH a ρ).bind fun x=>qo x f
 | .call _ g l,ρ=>(kj l ρ).bind g
 | .lst l,ρ=>(kj l ρ).bind fun ds=>some (.lst ds)
 | .tup l,ρ=>(kj l ρ).bind fun ds=>some (.tup ds)
 | .ix a b,ρ=>(bH a ρ).bind fun x=>(bH b ρ).bind fun y=>Gn x y
 | .sl a lo hi,ρ=>(bH a ρ).bind fun x=>(J8 lo ρ).bind fun l=>(J8 hi ρ).bind fun h=>J7 x l h
 | .step a lo st,ρ=>(bH a ρ).bind fun x=>(bH lo ρ).bind fun l=>(bH st ρ).bind fun h=>Eo x l h
 | .cnt a b,ρ=>(bH a ρ).bind fun x=>(bH b ρ).bind fun y=>Jq x y
 | .comp t it c e,ρ=>(pX it ρ).bind fun ds=>(i_ (BE c) (bH e) t (jB ρ t.slots) ds).bind fun l=>some (.lst l)
noncomputable def kj:Es→eM→Option (List D)
 | .nil,_=>some []
 | .cons a r,ρ=>(bH a ρ).bind fun x=>(kj r ρ).bind fun xs=>some (x::xs)
noncomputable def r9:Es→eM→Option D
 | .nil,_=>none
 | .cons a .nil,ρ=>bH a ρ
 | .cons a r,ρ=>(bH a ρ).bind fun x=>(fU x).bind fun k=>match k with
  | true=>r9 r ρ
  | false=>some (.bl false)
noncomputable def Ak:Es→eM→Option D
 | .nil,_=>none
 | .cons a .nil,ρ=>bH a ρ
 | .cons a r,ρ=>(bH a ρ).bind fun x=>(fU x).bind fun k=>match k with
  | true=>some (.bl true)
  | false=>Ak r ρ
noncomputable def J8:Oe→eM→Option (Option Int)
 | .no,_=>some none
 | .yes a,ρ=>(bH a ρ).bind fun x=>(intOf x).bind fun i=>some (some i)
noncomputable def BE:Oe→eM→Option Bool
 | .no,_=>some true
 | .yes a,ρ=>(bH a ρ).bind fU
noncomputable def pX:It→eM→Option (List D)
 | .lst a,ρ=>(bH a ρ).bind NV
 | .pW a,ρ=>(bH a ρ).bind (itR 0)
 | .En a b,ρ=>(bH a ρ).bind fun x=>(bH b ρ).bind fun y=>Gp x y
 | .enum a,ρ=>(bH a ρ).bind fun x=>(NV x).bind fun l=>some (oB 0 l)
 | .zip a b,ρ=>(bH a ρ).bind fun x=>(bH b ρ).bind fun y=>Vk x y
 | .rev a,ρ=>(bH a ρ).bind fun x=>(NV x).bind fun l=>some l.reverse
end
inductive Sl where
 | no|fz (d:D)|ow (l:List D)
mutual
inductive S where
 | asg (i:Nat) (e:E) (fz:List Nat)
 | own (i:Nat) (e:E) (fz:List Nat)
 | aug (i:Nat) (o:O2) (e:E)
 | app (i:Nat) (e:E) (fz:List Nat)
 | ext (i:Nat) (e:E) (fz:List Nat)
 | ret (e:E) (fz:List Nat)
 | jL (c:E) (a b:Ss)
 | jM (t:Tg) (it:It) (fz:List Nat) (body:Ss)
 | brk|cont|pass
inductive Ss where
 | nil|cons (a:S) (r:Ss)
end
inductive Out where
 | nx (s:List Sl)|rt (d:D)|bk (s:List Sl)|ct (s:List Sl)
noncomputable def gI:List Sl→Nat→Sl
 | [],_=>.no
 | x::_,0=>x
 | _::r,n+1=>gI r n
noncomputable def sset:List Sl→Nat→Sl→List Sl
 | [],_,_=>[]
 | _::r,0,y=>y::r
 | x::r,n+1,y=>x::sset r n y
noncomputable def BF:Sl→Sl
 | .ow l=>.fz (.lst l)
 | x=>x
noncomputable def freeze:List Nat→List Sl→List Sl
 | [],s=>s
 | i::r,s=>freeze r (sset s i (BF (gI s i)))
noncomputable def K6:Sl→Option D
 | .fz d=>some d
 | _=>none
noncomputable def view (s:List Sl):eM:=s.map K6
noncomputable def K7:Sl→Option D
 | .fz d=>some d
 | .ow l=>some (.lst l)
 | .no=>none
noncomputable def bA (s:List Sl):eM:=s.map K7
noncomputable def Th:D→Bool
 | .gH=>true
 | .bl _=>true
 | .int _=>true
 | _=>false
noncomputable def listOf:D→Option (List D)
 | .lst l=>some l
 | _=>none
noncomputable def BG:List Nat→List D→List Sl→Option (List Sl)
 | [],[],s=>some s
 | i::is,d::ds,s=>BG is ds (sset s i (.fz d))
 | _,_,_=>none
noncomputable def Gq:Tg→D→List Sl→Option (List Sl)
 | .nm i,d,s=>some (sset s i (.fz d))
 | .tp l,.tup ds,s=>BG l ds s
 | .tp _,_,_=>none
noncomputable def after (d:D) (fz:List Nat) (s:List Sl):List Sl:=match Th d with
 | true=>s
 | false=>freeze fz s
noncomputable def yn (o:O2) (x:Option D) (d:D):Option D:=match x,d with
 | some (.int i),.int j=>(match o with
  | .add=>some (.int (i+j))
  | .sub=>some (.int (i - j))
  | .bor=>some (.int (Builtin.bitOr i j))
  | _=>none)
 | _,_=>none
noncomputable def CB (s:List Sl) (i:Nat) (more:List D):Option (List Sl):=match gI s i with
 | .ow l=>if l.length+more.length≤sizeLine then some (sset s i (.ow (l++more))) else none
 | _=>none
noncomputable def loop (t:Tg) (body:List Sl→Option Out):List D→List Sl→Option Out
 | [],s=>some (.nx s)
 | d::r,s=>(Gq t d s).bind fun s1=>(body s1).bind fun o=>match o with
  | .nx s2=>loop t body r s2
  | .ct s2=>loop t body r s2
  | .bk s2=>some (.nx s2)
  | .rt d=>some (.rt d)
mutual
noncomputable def uI:S→List Sl→Option Out
 | .asg i e fz,s=>(bH e (view (freeze fz s))).bind fun d=>some (.nx (sset (after d fz s) i (.fz d)))
 | .own i e fz,s=>(bH e (view (freeze fz s))).bind fun d=>(listOf d).bind fun l=>some (.nx (sset (freeze fz s) i (.ow l)))
 | .aug i o e,s=>(bH e (bA s)).bind fun d=>(yn o (fR (view s) i) d).bind fun x=>some (.nx (sset s i (.fz x)))
 | .app i e fz,s=>(bH e (view (freeze fz s))).bind fun d=>(CB (after d fz s) i [d]).bind fun s1=>some (.nx s1)
 | .ext i e fz,s=>(bH e (view (freeze fz s))).bind fun d=>(listOf d).bind fun l=>(CB (freeze fz s) i l).bind fun s1=>some (.nx s1)
 | .ret e fz,s=>(bH e (view (freeze fz s))).bind fun d=>some (.rt d)
 | .jL c a b,s=>(bH c (bA s)).bind fun d=>(fU d).bind fun k=>match k with
  | true=>cf a s
  | false=>cf b s
 | .jM t it fz body,s=>(pX it (view (freeze fz s))).bind fun ds=>loop t (cf body) ds (freeze fz s)
 | .brk,s=>some (.bk s)
 | .cont,s=>some (.ct s)
 | .pass,s=>some (.nx s)
noncomputable def cf:Ss→List Sl→Option Out
 | .nil,s=>some (.nx s)
 | .cons a r,s=>(uI a s).bind fun o=>match o with
  | .nx s1=>cf r s1
  | .rt d=>some (.rt d)
  | .bk s1=>some (.bk s1)
  | .ct s1=>some (.ct s1)
end
noncomputable def bQ (n:Nat) (body:Ss) (ds:List D):Option D :=
 (cf body (ds.map .fz++aH (n - ds.length) .no)).bind fun o=>match o with
  | .rt d=>some d
  | .nx _=>some .gH
  | _=>none
end Mi
namespace Mi
open PySem PySem.Spec PyProof.Rows L2
noncomputable def MZ (K:ab) (C:Addr) (gs:List (Str×V)):List Str→List V→Prop
 | [],vs=>vs=[]
 | n::ns,vs=>∃v r,vs=v::r∧jv K C n∧gs.lookup n=some v∧MZ K C gs ns r
mutual
noncomputable def Den (K:ab) (F:Hp):D→V→Prop
 | .gH,v=>v=.gH
 | .bl b,v=>v=.bl b
 | .int i,v=>v=.int i
 | .any,_=>True
 | .lst ds,v=>ds.length≤sizeLine∧∃a vs,v=.ref a∧F a=some (.lst vs)∧cG K F ds vs
 | .tup ds,v=>∃a vs,v=.ref a∧yc K F a vs∧cG K F ds vs
 | .obj ns ds,v=>∃a C dx gs vs,v=.ref a∧F a=some (.ins C dx gs)∧MU K C∧MZ K C gs ns vs∧cG K F ds vs
noncomputable def cG (K:ab) (F:Hp):List D→List V→Prop
 | [],vs=>vs=[]
 | d::ds,vs=>∃v r,vs=v::r∧Den K F d v∧cG K F ds r
end
theorem mv {K:ab} {F G:Hp} {a:Addr} {vs:List V} (s:bW F G) (h:yc K F a vs):yc K G a vs:=by
 rcases h with (h|⟨o,h⟩)|h
 ·exact .inl (.inl (s _ _ h))
 ·exact .inl (.inr ⟨o,s _ _ h⟩)
 ·exact .inr h
mutual
theorem cT {K:ab} {F G:Hp} (s:bW F G):∀(d:D) (v:V),Den K F d v→Den K G d v
 | .gH,_,h=>by unfold Den at h ⊢;exact h
 | .bl _,_,h=>by unfold Den at h ⊢;exact h
 | .int _,_,h=>by unfold Den at h ⊢;exact h
 | .any,_,_=>by unfold Den;trivial
 | .lst ds,v,h=>by
  unfold Den at h ⊢
  obtain ⟨z,a,vs,e,q,r⟩:=h
  exact ⟨z,a,vs,e,s _ _ q,cC s ds vs r⟩
 | .tup ds,v,h=>by
  unfold Den at h ⊢
  obtain ⟨a,vs,e,q,r⟩:=h
  exact ⟨a,vs,e,mv s q,cC s ds vs r⟩
 | .obj ns ds,v,h=>by
  unfold Den at h ⊢
  obtain ⟨a,C,dx,gs,vs,e,q,c,f,r⟩:=h
  exact ⟨a,C,dx,gs,vs,e,s _ _ q,c,f,cC s ds vs r⟩
theorem cC {K:ab} {F G:Hp} (s:bW F G):∀(ds:List D) (vs:List V),cG K F ds vs→cG K G ds vs
 | [],_,h=>by unfold cG at h ⊢;exact h
 | d::ds,vs,h=>by
  unfold cG at h ⊢
  obtain ⟨v,r,e,h1,h2⟩:=h
  exact ⟨v,r,e,cT s d v h1,cC s ds r h2⟩
end
section
variable {K:ab} {F G H H' F':Hp} {σ:L2.St}
theorem bX:cG K F [] []:=by unfold cG;rfl
theorem bD {d:D} {ds:List D} {v:V} {vs:List V} (h:Den K F d v) (r:cG K F ds vs):cG K F (d::ds) (v::vs):=by
 unfold cG;exact ⟨v,vs,rfl,h,r⟩
theorem bM {d:D} {ds:List D} {vs:List V} (h:cG K F (d::ds) vs):∃v r,vs=v::r∧Den K F d v∧cG K F ds r:=by
 unfold cG at h;exact h
theorem bO {vs:List V} (h:cG K F [] vs):vs=[]:=by unfold cG at h;exact h
theorem bP:∀{ds:List D} {vs:List V},cG K F ds vs→ds.length=vs.length
 | [],_,h=>by rw [bO h];rfl
 | d::ds,vs,h=>by
  obtain ⟨v,r,rfl,_,h2⟩:=bM h
  simp [bP h2]
theorem jN:∀{ds es:List D} {vs us:List V},cG K F ds vs→cG K F es us→cG K F (ds++es) (vs++us)
 | [],_,_,_,h,q=>by rw [bO h];exact q
 | d::ds,_,vs,_,h,q=>by
  obtain ⟨v,r,rfl,h1,h2⟩:=bM h
  exact bD h1 (jN h2 q)
theorem fK:∀{ds:List D} {vs:List V} {i:Nat} {d:D},cG K F ds vs→ds[i]?=some d→∃v,vs[i]?=some v∧Den K F d v
 | [],_,_,_,_,e=>by simp at e
 | d::ds,vs,0,x,h,e=>by
  obtain ⟨v,r,rfl,h1,h2⟩:=bM h
  simp at e;subst e
  exact ⟨v,rfl,h1⟩
 | d::ds,vs,i+1,x,h,e=>by
  obtain ⟨v,r,rfl,h1,h2⟩:=bM h
  obtain ⟨u,q1,q2⟩:=fK (i:=i) h2 (by simpa using e)
  exact ⟨u,by simpa using q1,q2⟩
theorem HM:∀{ds:List D} {vs:List V} {i:Nat} {v:V},cG K F ds vs→vs[i]?=some v→∃d,ds[i]?=some d∧Den K F d v
 | [],_,_,_,h,e=>by rw [bO h] at e;simp at e
 | d::ds,vs,0,x,h,e=>by
  obtain ⟨v,r,rfl,h1,h2⟩:=bM h
  simp at e;subst e
  exact ⟨d,rfl,h1⟩
 | d::ds,vs,i+1,x,h,e=>by
  obtain ⟨v,r,rfl,h1,h2⟩:=bM h
  obtain ⟨u,q1,q2⟩:=HM (i:=i) h2 (by simpa using e)
  exact ⟨u,by simpa using q1,q2⟩
theorem uW:∀(n:Nat) {ds:List D} {vs:List V},cG K F ds vs→cG K F (ds.drop n) (vs.drop n)
 | 0,_,_,h=>h
 | n+1,[],_,h=>by rw [bO h];exact bX
 | n+1,d::ds,vs,h=>by
  obtain ⟨v,r,rfl,h1,h2⟩:=bM h
  exact uW n h2
theorem BH:∀(n:Nat) {ds:List D} {vs:List V},cG K F ds vs→cG K F (ds.take n) (vs.take n)
 | 0,_,_,_=>bX
 | n+1,[],_,h=>by rw [bO h];exact bX
 | n+1,d::ds,vs,h=>by
  obtain ⟨v,r,rfl,h1,h2⟩:=bM h
  exact bD h1 (BH n h2)
theorem Ep:∀{ds:List D} {vs:List V},cG K F ds vs→cG K F ds.reverse vs.reverse
 | [],_,h=>by rw [bO h];exact bX
 | d::ds,vs,h=>by
  obtain ⟨v,r,rfl,h1,h2⟩:=bM h
  rw [dZ,dZ]
  exact jN (Ep h2) (bD h1 bX)
theorem Er {ds:List D} {vs:List V} (h:cG K F ds vs):∀k:Nat,cG K F (aH k ds).flatten (aH k vs).flatten
 | 0=>bX
 | k+1=>by
  rw [cM,cM,bB,bB]
  exact jN h (Er h k)
theorem mn:∀{ds:List D} {ns:List Int} {vs:List V},intsOf ds=some ns→cG K F ds vs→vs=ns.map V.int
 | [],ns,vs,e,h=>by
  rw [bO h]
  simp [intsOf] at e;subst e;rfl
 | .int i::ds,ns,vs,e,h=>by
  obtain ⟨v,r,rfl,h1,h2⟩:=bM h
  simp only [intsOf] at e
  cases q:intsOf ds with
  | none=>rw [q] at e;simp at e
  | some l =>
   rw [q] at e
   simp at e;subst e
   have e1:v=.int i:=by unfold Den at h1;exact h1
   rw [mn q h2,e1];rfl
 | .gH::_,_,_,e,_=>by simp [intsOf] at e
 | .bl _::_,_,_,e,_=>by simp [intsOf] at e
 | .lst _::_,_,_,e,_=>by simp [intsOf] at e
 | .tup _::_,_,_,e,_=>by simp [intsOf] at e
 | .obj _ _::_,_,_,e,_=>by simp [intsOf] at e
 | .any::_,_,_,e,_=>by simp [intsOf] at e
theorem yo:∀{ds:List D} {ns:List Bool} {vs:List V},lB ds=some ns→cG K F ds vs→vs=ns.map V.bl
 | [],ns,vs,e,h=>by
  rw [bO h]
  simp [lB] at e;subst e;rfl
 | .bl i::ds,ns,vs,e,h=>by
  obtain ⟨v,r,rfl,h1,h2⟩:=bM h
  simp only [lB] at e
  cases q:lB ds with
  | none=>rw [q] at e;simp at e
  | some l =>
   rw [q] at e
   simp at e;subst e
   have e1:v=.bl i:=by unfold Den at h1;exact h1
   rw [yo q h2,e1];rfl
 | .gH::_,_,_,e,_=>by simp [lB] at e
 | .int _::_,_,_,e,_=>by simp [lB] at e
 | .lst _::_,_,_,e,_=>by simp [lB] at e
 | .tup _::_,_,_,e,_=>by simp [lB] at e
 | .obj _ _::_,_,_,e,_=>by simp [lB] at e
 | .any::_,_,_,e,_=>by simp [lB] at e
theorem bF {i:Int} {v:V} (h:Den K F (.int i) v):v=.int i:=by unfold Den at h;exact h
theorem uX {i:Bool} {v:V} (h:Den K F (.bl i) v):v=.bl i:=by unfold Den at h;exact h
theorem dd {l:List D} {v:V} (h:Den K F (.lst l) v):l.length≤sizeLine∧∃a vs,v=.ref a∧F a=some (.lst vs)∧cG K F l vs:=by unfold Den at h;exact h
theorem ra {l:List D} {v:V} (h:Den K F (.tup l) v):∃a vs,v=.ref a∧yc K F a vs∧cG K F l vs:=by unfold Den at h;exact h
theorem bR (i:Int):Den K F (.int i) (.int i):=by unfold Den;rfl
theorem m6 (i:Bool):Den K F (.bl i) (.bl i):=by unfold Den;rfl
theorem K8:Den K F .gH .gH:=by unfold Den;rfl
theorem gA {l:List D} {vs:List V} {a:Addr} (z:l.length≤sizeLine) (e:F a=some (.lst vs)) (r:cG K F l vs):Den K F (.lst l) (.ref a):=by
 unfold Den;exact ⟨z,a,vs,rfl,e,r⟩
theorem yp {l:List D} {vs:List V} {a:Addr} (e:yc K F a vs) (r:cG K F l vs):Den K F (.tup l) (.ref a):=by
 unfold Den;exact ⟨a,vs,rfl,e,r⟩
theorem HN {d:D} {v:V} (h:Den K F d v) (s:Th d=true):Den K G d v:=by
 cases d<;>first|(unfold Den at h ⊢;exact h)|(simp [Th] at s)
structure Ext (F H F' H':Hp):Prop where
 hh:bW H H'
 ff:bW F F'
 fh:bW F' H'
 nw:∀b,F b=none→H b≠none→F' b=none
theorem same_refl (H:Hp):bW H H:=fun _ _ e=>e
theorem same_none (s:bW F H) {b:Addr} (h:H b=none):F b=none:=by
 cases q:F b with
 | none=>rfl
 | some o=>rw [s b o q] at h;cases h
theorem CC (s:bW F H) {b:Addr} (h:F b≠none):H b≠none:=fun e=>h (same_none s e)
theorem Ext.refl (s:bW F H):Ext F H F H:=⟨same_refl H,same_refl F,s,fun _ h _=>h⟩
theorem Ext.trans {F1 H1 F2 H2:Hp} (a:Ext F H F1 H1) (b:Ext F1 H1 F2 H2):Ext F H F2 H2 :=
 ⟨a.hh.trans b.hh,a.ff.trans b.ff,b.fh,fun c h1 h2=>b.nw c (a.nw c h1 h2) (CC a.hh h2)⟩
theorem eF (h:H p=none) (o:HO):bW H (upd H p o):=fun b u e=>by
 rw [aN (bS e h)];exact e
theorem Ext.new (s:bW F H) {p:Addr} (h:H p=none) (o:HO):Ext F H (upd F p o) (upd H p o) :=
 ⟨eF h o,eF (same_none s h) o,fun b u e=>by
  by_cases hb:b=p
  ·subst hb;rw [aL] at e ⊢;exact e
  ·rw [aN hb] at e ⊢;exact s b u e,fun b h1 h2=>by
  by_cases hb:b=p
  ·subst hb;exact absurd h h2
  ·rw [aN hb];exact h1⟩
theorem Ext.Ti (s:bW F H) {p:Addr} (h:H p=none) (o:HO):Ext F H F (upd H p o) :=
 ⟨eF h o,same_refl F,s.trans (eF h o),fun _ h1 _=>h1⟩
noncomputable def sM (K:ab) (F:Hp) (σ:L2.St) (ρ:eM):Prop:=∀i d,fR ρ i=some d→∃v,σ[i]?=some (some v)∧Den K F d v
theorem sM.mono {ρ:eM} (h:sM K F σ ρ) (s:bW F G):sM K G σ ρ:=fun i d e=>by
 obtain ⟨v,h1,h2⟩:=h i d e
 exact ⟨v,h1,cT s d v h2⟩
theorem uY:∀(ρ:eM) (i j:Nat) (y:Option D),fR (sJ ρ i y) j=if i=j∧i < ρ.length then y else fR ρ j
 | [],i,j,y=>by simp [sJ,fR]
 | x::r,0,0,y=>by simp [sJ,fR]
 | x::r,0,j+1,y=>by simp [sJ,fR]
 | x::r,i+1,0,y=>by simp [sJ,fR]
 | x::r,i+1,j+1,y=>by simp [sJ,fR,uY r i j y]
theorem yq:∀(ρ:eM) (i:Nat) (y:Option D),(sJ ρ i y).length=ρ.length
 | [],_,_=>rfl
 | _::_,0,_=>rfl
 | _::r,i+1,y=>by simp [sJ,yq r i y]
theorem CD:∀{ρ:eM} {i:Nat} {d:D},fR ρ i=some d→i < ρ.length
 | [],_,_,h=>by simp [fR] at h
 | _::_,0,_,_=>by simp
 | _::r,i+1,d,h=>by
  have:=CD (ρ:=r) (i:=i) (d:=d) h
  simp;omega
theorem sM.set {ρ:eM} (h:sM K F σ ρ) (l:σ.length=ρ.length) {i:Nat} {d:D} {v:V} (hd:Den K F d v):sM K F (σ.set i (some v)) (sJ ρ i (some d)):=fun j x e=>by
 rw [uY] at e
 by_cases hi:i=j∧i < ρ.length
 ·rw [if_pos hi] at e
  obtain ⟨rfl,hl⟩:=hi
  cases e
  exact ⟨v,by rw [b6 (by omega)],hd⟩
 ·rw [if_neg hi] at e
  have hj:=CD e
  have k6:i≠j:=fun z=>hi ⟨z,by omega⟩
  obtain ⟨u,h1,h2⟩:=h j x e
  exact ⟨u,by rw [bo k6];exact h1,h2⟩
theorem sM.no {ρ:eM} (h:sM K F σ ρ) {i:Nat}:sM K F (σ.set i none) (sJ ρ i none):=fun j x e=>by
 rw [uY] at e
 by_cases hi:i=j∧i < ρ.length
 ·rw [if_pos hi] at e;cases e
 ·rw [if_neg hi] at e
  have hj:=CD e
  have k6:i≠j:=fun z=>hi ⟨z,by omega⟩
  obtain ⟨u,h1,h2⟩:=h j x e
  exact ⟨u,by rw [bo k6];exact h1,h2⟩
theorem BI (ρ:eM):∀vs:List Nat,(jB ρ vs).length=ρ.length
 | []=>rfl
 | v::vs=>by unfold jB;rw [yq,BI ρ vs]
theorem sM.wipe {ρ:eM} (h:sM K F σ ρ):∀vs:List Nat,sM K F (wipe σ vs) (jB ρ vs)
 | []=>h
 | v::vs=>by unfold L2.wipe jB;exact sM.no (sM.wipe h vs)
end
end Mi
namespace Mi
open PySem PySem.Spec PyProof.Rows L2
structure Slots (K:ab) (F:Hp) (σ:L2.St) (ρ:eM):Prop where
 len:σ.length=ρ.length
 den:sM K F σ ρ
section
variable {K:ab} {F G H H' F':Hp} {σ:L2.St} {ρ:eM}
theorem Slots.mono (h:Slots K F σ ρ) (s:bW F G):Slots K G σ ρ:=⟨h.len,h.den.mono s⟩
theorem Slots.wipe (h:Slots K F σ ρ) (vs:List Nat):Slots K F (wipe σ vs) (jB ρ vs):=⟨by rw [iC,BI];exact h.len,h.den.wipe vs⟩
theorem Slots.set (h:Slots K F σ ρ) {i:Nat} {d:D} {v:V} (hd:Den K F d v):Slots K F (σ.set i (some v)) (sJ ρ i (some d)):=⟨by rw [cO,yq];exact h.len,h.den.set h.len hd⟩
theorem Ext.adopt {F2 H2:Hp} {p:Addr} {o:HO} (e:Ext F H F2 H2) (h:H p=none) (h2:H2 p=some o) (f:F2 p=none):Ext F H (upd F2 p o) H2 :=
 ⟨e.hh,e.ff.trans (eF f o),fun b u q=>by
  by_cases hb:b=p
  ·subst hb;rw [aL] at q;rw [h2];exact q
  ·rw [aN hb] at q;exact e.fh b u q,fun b h1 h3=>by
  by_cases hb:b=p
  ·subst hb;exact absurd h h3
  ·rw [aN hb];exact e.nw b h1 h3⟩
theorem Ext.write {F2 H2:Hp} {p:Addr} {o:HO} (e:Ext F H F2 H2) (h:H p=none) (f:F2 p=none):Ext F H F2 (upd H2 p o) :=
 ⟨fun b u q=>by rw [aN (bS q h)];exact e.hh b u q,e.ff,fun b u q=>by rw [aN (bS q f)];exact e.fh b u q,e.nw⟩
end
noncomputable def tM (K:ab) (ev:eM→Option D):TE:=fun σ H Q=>∃F ρ d,bW F H∧Slots K F σ ρ∧ev ρ=some d∧∀v F' H',Ext F H F' H'→Den K F' d v→Q v H'
noncomputable def HP (K:ab) (ev:eM→Option (List D)):TA:=fun σ H Q=>∃F ρ d,bW F H∧Slots K F σ ρ∧ev ρ=some d∧∀v F' H',Ext F H F' H'→cG K F' d v→Q v H'
noncomputable def tV (K:ab) (ev:eM→Option Bool):TT:=fun σ H Q=>∃F ρ b,bW F H∧Slots K F σ ρ∧ev ρ=some b∧∀F' H',Ext F H F' H'→Q b H'
noncomputable def QH (K:ab) (ev:eM→Option (Option Int)):TO:=fun σ H Q=>∃F ρ o,bW F H∧Slots K F σ ρ∧ev ρ=some o∧∀F' H',Ext F H F' H'→Q o H'
structure Jr (K:ab) (F:Hp) (J:L2.It) (ds:List D):Prop where
 len:ds.length≤sizeLine
 stop:∀(i:Nat) (H:Hp),bW F H→ds.length≤i→J.stop i H
 go:∀(i:Nat) (d:D) (H:Hp),bW F H→ds[i]?=some d→J.go i H
 IX:∀(i:Nat) (d:D) (H:Hp),bW F H→ds[i]?=some d→∀(x:V) (H':Hp),J.IX i H x H'→∀F1,bW F F1→bW F1 H→∃F2,Ext F1 H F2 H'∧Den K F2 d x
noncomputable def HQ (K:ab) (ev:eM→Option (List D)):TI:=fun σ H R=>∃F ρ ds,bW F H∧Slots K F σ ρ∧ev ρ=some ds∧∀J F' H',Ext F H F' H'→Jr K F' J ds→R J H'
noncomputable def RD (K:ab) (f:D→D→Option D):R2:=fun x y H Q=>∃F dx dy d,bW F H∧Den K F dx x∧Den K F dy y∧f dx dy=some d∧∀v F' H',Ext F H F' H'→Den K F' d v→Q v H'
section
variable {X:Cx} {e a b:Expr} {es:List Expr} {pos p:Pos} {ea eb:eM→Option D} {el:eM→Option (List D)}
theorem fL {t t':TE} (h:PE X e t) (k:∀σ H Q,t' σ H Q→t σ H Q):PE X e t':=fun pins s σ H Q I q=>h pins s σ H Q I (k σ H Q q)
theorem Gr {t t':TT} (h:PT X e t) (k:∀σ H Q,t' σ H Q→t σ H Q):PT X e t':=fun pins s σ H Q I q=>h pins s σ H Q I (k σ H Q q)
theorem K9 {t t':TT} (h:PW X e t) (k:∀σ H Q,t' σ H Q→t σ H Q):PW X e t':=fun wh pins s σ H Q I q=>h wh pins s σ H Q I (k σ H Q q)
theorem K_ {t t':TA} (h:PA X es t) (k:∀σ H Q,t' σ H Q→t σ H Q):PA X es t':=fun pos pins s σ H Q I q=>h pos pins s σ H Q I (k σ H Q q)
theorem uZ {tg:Expr} {t t':TI} (h:PI X tg e t) (k:∀σ H Q,t' σ H Q→t σ H Q):PI X tg e t':=fun pins s σ H Q I q=>h pins s σ H Q I (k σ H Q q)
theorem La {x:Option Expr} {t t':TO} (h:PO X x t) (k:∀σ H Q,t' σ H Q→t σ H Q):PO X x t':=fun pins s σ H Q I q=>h pins s σ H Q I (k σ H Q q)
theorem NW {t t':TT} (h:NH X es t) (k:∀σ H Q,t' σ H Q→t σ H Q):NH X es t':=fun pins s σ H Q I q=>h pins s σ H Q I (k σ H Q q)
theorem BJ {α β:Type} {a:Option α} {x:α} {f:α→Option β} {r:Option β} (h:a=some x) (h2:f x=r):a.bind f=r:=by rw [h];exact h2
theorem two {K:ab} {F H:Hp} {σ:L2.St} {ρ:eM} {x y:D} {k:V→V→Hp→Prop} (s:bW F H) (l:Slots K F σ ρ) (ha:ea ρ=some x) (hb:eb ρ=some y)
  (hk:∀v w F' H',Ext F H F' H'→Den K F' x v→Den K F' y w→k v w H'):tM K ea σ H fun v H1=>tM K eb σ H1 fun w H2=>k v w H2 :=
 ⟨F,ρ,x,s,l,ha,fun v F1 H1 e1 d1=>⟨F1,ρ,y,e1.fh,l.mono e1.ff,hb,fun w F2 H2 e2 d2=>hk v w F2 H2 (e1.trans e2) (cT e2.ff x v d1) d2⟩⟩
theorem QI {ρ:eM} {f:D→D→Option D} {d:D} (h:((ea ρ).bind fun x=>(eb ρ).bind fun y=>f x y)=some d):∃x y,ea ρ=some x∧eb ρ=some y∧f x y=some d:=by
 obtain ⟨x,e1,h⟩:=ae.mp h
 obtain ⟨y,e2,h⟩:=ae.mp h
 exact ⟨x,y,e1,e2,h⟩
theorem Lb {K:ab} {f:D→D→Option D} {σ:L2.St} {H:Hp} {Q:VK} (h:tM K (fun ρ=>(ea ρ).bind fun x=>(eb ρ).bind fun y=>f x y) σ H Q):SD (RD K f) (tM K ea) (tM K eb) σ H Q:=by
 obtain ⟨F,ρ,d,s,l,e,q⟩:=h
 obtain ⟨x,y,e1,e2,e3⟩:=QI e
 exact two s l e1 e2 fun v w F' H' ex d1 d2=>⟨F',x,y,d,ex.fh,d1,d2,e3,fun u F2 H2 jb d3=>q u F2 H2 (ex.trans jb) d3⟩
theorem Tj {i:Nat} {x:Str} (hN:X.N[i]?=some x) (hv:OM X.env.scope x) (hd:(x == ("__debug__" : Str))=false) (Kk:(x == ("__classdict__" : Str))=false):PE X (.Name x pos) (tM X.K fun ρ=>fR ρ i) :=
 fL (Cm hN hv hd Kk) fun σ H Q ⟨F,ρ,d,s,l,e,q⟩=>by
  obtain ⟨v,h1,h2⟩:=l.den i d e
  exact ⟨v,h1,q v F H (.refl s) h2⟩
theorem To {z:Int} {j:Nat}:PE X (.Constant (.int z) j pos) (tM X.K fun _=>some (.int z)) :=
 fL sA fun σ H Q ⟨F,ρ,d,s,l,e,q⟩=>by cases e;exact q _ F H (.refl s) (bR _)
theorem W2 {z:Bool} {j:Nat}:PE X (.Constant (.bool z) j pos) (tM X.K fun _=>some (.bl z)) :=
 fL Sf fun σ H Q ⟨F,ρ,d,s,l,e,q⟩=>by cases e;exact q _ F H (.refl s) (m6 _)
theorem Tp {j:Nat}:PE X (.Constant .none j pos) (tM X.K fun _=>some .gH) :=
 fL PR fun σ H Q ⟨F,ρ,d,s,l,e,q⟩=>by cases e;exact q _ F H (.refl s) K8
noncomputable def k7 (K:ab) (mg:Str→Option Value) (x:Str) (d:D):Prop:=∃u v,mg x=some u∧RelV v u∧∀F,Den K F d v
theorem W3 {x:Str} {d:D} (hg:Gl X x) (h:k7 X.K X.mg x d) (hd:(x == ("__debug__" : Str))=false):PE X (.Name x pos) (tM X.K fun _=>some d):=by
 obtain ⟨u,v,h1,h2,h3⟩:=h
 exact fL (Ni hg h1 h2 hd) fun σ H Q ⟨F,ρ,d,s,l,e,q⟩=>by cases e;exact q _ F H (.refl s) (h3 F)
theorem W4 {op:Operator} {f:D→D→Option D} (ho:kG X (binaryOp op) (RD X.K f)) (ha:PE X a (tM X.K ea)) (hb:PE X b (tM X.K eb)):PE X (.BinOp a op b pos) (tM X.K fun ρ=>(ea ρ).bind fun x=>(eb ρ).bind fun y=>f x y) :=
 fL (ye ho ha hb) fun _ _ _ h=>Lb h
theorem Tq {op:CmpOp} {f:D→D→Option D} (ho:kG X (compareOp op) (RD X.K f)) (ha:PE X a (tM X.K ea)) (hb:PE X b (tM X.K eb)) (hm:behindInMarks op b=false):PE X (.Compare a [op] [b] pos) (tM X.K fun ρ=>(ea ρ).bind fun x=>(eb ρ).bind fun y=>f x y) :=
 fL (Nt ho ha hb hm) fun _ _ _ h=>Lb h
theorem O0 {K:ab} {ev:eM→Option D} {σ:L2.St} {H:Hp} {Q:Bool→Hp→Prop} (h:tV K (fun ρ=>(ev ρ).bind fU) σ H Q):tM K ev σ H fun x H1=>∃c,x=.bl c∧Q c H1:=by
 obtain ⟨F,ρ,b,s,l,e,q⟩:=h
 obtain ⟨d,e1,e2⟩:=ae.mp e
 have e3:d=.bl b:=by cases d<;>simp [fU] at e2;rw [e2]
 subst e3
 exact ⟨F,ρ,_,s,l,e1,fun v F' H' ex dn=>⟨b,uX dn,q F' H' ex⟩⟩
theorem QJ {op:CmpOp} {f:D→D→Option D} (ho:kG X (compareOp op) (RD X.K f)) (ha:PE X a (tM X.K ea)) (hb:PE X b (tM X.K eb)) (hm:behindInMarks op b=false):PT X (.Compare a [op] [b] pos) (tV X.K fun ρ=>((ea ρ).bind fun x=>(eb ρ).bind fun y=>f x y).bind fU) :=
 Gr (Hu ho ha hb hm) fun _ _ _ h=>Lb (O0 h)
theorem ie {ev:eM→Option D} (h:PE X e (tM X.K ev)) (he:∀whole,isTrue e X.env whole=(do let v ←whole;standAt e.pos;holding [v] (truthy v))):PT X e (tV X.K fun ρ=>(ev ρ).bind fU) :=
 Gr (PU h he) fun _ _ _ q=>O0 q
theorem Tr {ev:eM→Option D} (h:PE X e (tM X.K ev)):PE X (.UnaryOp .Not e pos) (tM X.K fun ρ=>(ev ρ).bind K5) :=
 fL (P0 h) fun σ H Q ⟨F,ρ,d,s,l,e,q⟩=>by
  obtain ⟨x,e1,e2⟩:=ae.mp e
  obtain ⟨b,rfl,rfl⟩:∃b,x=.bl b∧d=.bl !b:=by cases x<;>simp [K5] at e2;exact ⟨_,rfl,e2.symm⟩
  exact ⟨F,ρ,_,s,l,e1,fun v F' H' ex dn=>⟨b,uX dn,q _ F' H' ex (m6 _)⟩⟩
theorem QK {ev:eM→Option D} (h:PT X e (tV X.K fun ρ=>(ev ρ).bind fU)):PT X (.UnaryOp .Not e pos) (tV X.K fun ρ=>((ev ρ).bind K5).bind fU) :=
 Gr (PY h) fun σ H Q ⟨F,ρ,b,s,l,e,q⟩=>by
  obtain ⟨y,e1,e2⟩:=ae.mp e
  obtain ⟨x,e3,e4⟩:=ae.mp e1
  obtain ⟨c,rfl,rfl⟩:∃c,x=.bl c∧y=.bl !c:=by cases x<;>simp [K5] at e4;exact ⟨_,rfl,e4.symm⟩
  have e5:(!c)=b:=by simpa [fU] using e2
  subst e5
  exact ⟨F,ρ,c,s,l,BJ e3 rfl,q⟩
theorem Ts {c:Expr} {ec:eM→Option D} (hc:PT X c (tV X.K fun ρ=>(ec ρ).bind fU)) (ha:PE X a (tM X.K ea)) (hb:PE X b (tM X.K eb)) :
  PE X (.IfExp c a b pos) (tM X.K fun ρ=>(ec ρ).bind fun x=>(fU x).bind fun k=>match k with|true=>ea ρ|false=>eb ρ) :=
 fL (Kn hc ha hb) fun σ H Q ⟨F,ρ,d,s,l,e,q⟩=>by
  obtain ⟨x,e1,e2⟩:=ae.mp e
  obtain ⟨k,e3,e4⟩:=ae.mp e2
  refine ⟨F,ρ,k,s,l,BJ e1 e3,fun F' H' ex=>?_⟩
  cases k with
  | true=>exact ⟨F',ρ,d,ex.fh,l.mono ex.ff,e4,fun v F2 H2 jb dn=>q v F2 H2 (ex.trans jb) dn⟩
  | false=>exact ⟨F',ρ,d,ex.fh,l.mono ex.ff,e4,fun v F2 H2 jb dn=>q v F2 H2 (ex.trans jb) dn⟩
theorem Tt {rest:List Expr} (ha:PE X a (tM X.K ea)) (hb:PE X (.BoolOp .And (b::rest) pos) (tM X.K eb)) :
  PE X (.BoolOp .And (a::b::rest) pos) (tM X.K fun ρ=>(ea ρ).bind fun x=>(fU x).bind fun k=>match k with|true=>eb ρ|false=>some (.bl false)) :=
 fL (PZ ha hb) fun σ H Q ⟨F,ρ,d,s,l,e,q⟩=>by
  obtain ⟨x,e1,e2⟩:=ae.mp e
  obtain ⟨k,e3,e4⟩:=ae.mp e2
  have W5:x=.bl k:=by cases x<;>simp [fU] at e3;rw [e3]
  subst W5
  refine ⟨F,ρ,_,s,l,e1,fun v F' H' ex dn=>⟨k,uX dn,?_⟩⟩
  cases k with
  | true=>exact ⟨F',ρ,d,ex.fh,l.mono ex.ff,e4,fun v F2 H2 jb dn=>q v F2 H2 (ex.trans jb) dn⟩
  | false=>cases e4;exact q _ F' H' ex (m6 _)
theorem W6 {rest:List Expr} (ha:PE X a (tM X.K ea)) (hb:PE X (.BoolOp .Or (b::rest) pos) (tM X.K eb)) :
  PE X (.BoolOp .Or (a::b::rest) pos) (tM X.K fun ρ=>(ea ρ).bind fun x=>(fU x).bind fun k=>match k with|true=>some (.bl true)|false=>eb ρ) :=
 fL (Sj ha hb) fun σ H Q ⟨F,ρ,d,s,l,e,q⟩=>by
  obtain ⟨x,e1,e2⟩:=ae.mp e
  obtain ⟨k,e3,e4⟩:=ae.mp e2
  have W5:x=.bl k:=by cases x<;>simp [fU] at e3;rw [e3]
  subst W5
  refine ⟨F,ρ,_,s,l,e1,fun v F' H' ex dn=>⟨k,uX dn,?_⟩⟩
  cases k with
  | false=>exact ⟨F',ρ,d,ex.fh,l.mono ex.ff,e4,fun v F2 H2 jb dn=>q v F2 H2 (ex.trans jb) dn⟩
  | true=>cases e4;exact q _ F' H' ex (m6 _)
theorem QL {rest:List Expr} (ha:PT X a (tV X.K fun ρ=>(ea ρ).bind fU)) (hb:PW X (.BoolOp .And (b::rest) pos) (tV X.K fun ρ=>(eb ρ).bind fU)) :
  PW X (.BoolOp .And (a::b::rest) pos) (tV X.K fun ρ=>((ea ρ).bind fun x=>(fU x).bind fun k=>match k with|true=>eb ρ|false=>some (.bl false)).bind fU) :=
 K9 (PX ha hb) fun σ H Q ⟨F,ρ,r,s,l,e,q⟩=>by
  obtain ⟨d,e0,e5⟩:=ae.mp e
  obtain ⟨x,e1,e2⟩:=ae.mp e0
  obtain ⟨k,e3,e4⟩:=ae.mp e2
  refine ⟨F,ρ,k,s,l,BJ e1 e3,fun F' H' ex=>?_⟩
  cases k with
  | true=>exact ⟨F',ρ,r,ex.fh,l.mono ex.ff,(by show (eb ρ).bind fU=some r;rw [show eb ρ=some d from e4];exact e5),fun F2 H2 jb=>q F2 H2 (ex.trans jb)⟩
  | false =>
   cases e4
   cases e5
   exact q F' H' ex
theorem Tu {rest:List Expr} (ha:PT X a (tV X.K fun ρ=>(ea ρ).bind fU)) (hb:PW X (.BoolOp .Or (b::rest) pos) (tV X.K fun ρ=>(eb ρ).bind fU)) :
  PW X (.BoolOp .Or (a::b::rest) pos) (tV X.K fun ρ=>((ea ρ).bind fun x=>(fU x).bind fun k=>match k with|true=>some (.bl true)|false=>eb ρ).bind fU) :=
 K9 (Sg ha hb) fun σ H Q ⟨F,ρ,r,s,l,e,q⟩=>by
  obtain ⟨d,e0,e5⟩:=ae.mp e
  obtain ⟨x,e1,e2⟩:=ae.mp e0
  obtain ⟨k,e3,e4⟩:=ae.mp e2
  refine ⟨F,ρ,k,s,l,BJ e1 e3,fun F' H' ex=>?_⟩
  cases k with
  | false=>exact ⟨F',ρ,r,ex.fh,l.mono ex.ff,(by show (eb ρ).bind fU=some r;rw [show eb ρ=some d from e4];exact e5),fun F2 H2 jb=>q F2 H2 (ex.trans jb)⟩
  | true =>
   cases e4
   cases e5
   exact q F' H' ex
theorem Al {f:Value→Value→Sem Value} {g:D→D→Option D} {r:R2} (ho:kG X f r)
  (inv:∀dx dy d,g dx dy=some d→∃i j,dx=.int i∧dy=.int j∧(∀H Q,(∀(v:V),(∀F,Den X.K F d v)→Q v H)→r (.int i) (.int j) H Q)):kG X f (RD X.K g):=by
 rintro pins s σ H x y v u Q I rx ry ⟨F,dx,dy,d,sm,d1,d2,e,q⟩
 obtain ⟨i,j,rfl,rfl,k⟩:=inv dx dy d e
 obtain rfl:=bF d1
 obtain rfl:=bF d2
 exact ho pins s σ H _ _ v u Q I rx ry (k H Q fun v hv=>q v F H (.refl sm) (hv F))
theorem Tv:kG X (binaryOp .Add) (RD X.K (i9 .add)):=by
 rintro pins s σ H x y v u Q I rx ry ⟨F,dx,dy,d,sm,d1,d2,e,q⟩
 cases dx<;>cases dy<;>simp only [i9,reduceCtorEq] at e
 ·cases e
  obtain rfl:=bF d1
  obtain rfl:=bF d2
  exact Kz pins s σ H _ _ v u Q I rx ry ⟨_,_,rfl,rfl,q _ F H (.refl sm) (bR _)⟩
 ·rename_i a b
  obtain ⟨z1,l1,v1,rfl,h1,r1⟩:=dd d1
  obtain ⟨z2,l2,v2,rfl,h2,r2⟩:=dd d2
  by_cases hz:a.length+b.length≤sizeLine
  ·rw [if_pos hz] at e
   cases e
   refine Cw pins s σ H _ _ v u Q I rx ry ⟨l1,l2,v1,v2,rfl,rfl,sm _ _ h1,sm _ _ h2,by rw [←bP r1,←bP r2];exact hz,fun p hp=>?_⟩
   have ex:=Ext.new sm hp (.lst (v1++v2))
   exact q _ _ _ ex (gA (by rw [ax];exact hz) aL (cC ex.ff _ _ (jN r1 r2)))
  ·rw [if_neg hz] at e;cases e
theorem Tw:kG X (binaryOp .Sub) (RD X.K (i9 .sub)):=Al Qa fun dx dy d e=>by
 cases dx<;>cases dy<;>simp only [i9,reduceCtorEq] at e
 cases e
 exact ⟨_,_,rfl,rfl,fun H Q k=>⟨_,_,rfl,rfl,k _ fun _=>bR _⟩⟩
theorem Tz:kG X (binaryOp .Mult) (RD X.K (i9 .mul)):=by
 rintro pins s σ H x y v u Q I rx ry ⟨F,dx,dy,d,sm,d1,d2,e,q⟩
 cases dx<;>cases dy<;>simp only [i9,reduceCtorEq] at e
 ·rename_i i j
  by_cases hz:-(2 ^ 64) < i∧i < 2 ^ 64
  ·rw [if_pos hz] at e
   cases e
   obtain rfl:=bF d1
   obtain rfl:=bF d2
   exact Qb pins s σ H _ _ v u Q I rx ry ⟨_,_,rfl,rfl,.inl hz,q _ F H (.refl sm) (bR _)⟩
  ·rw [if_neg hz] at e;cases e
 ·rename_i a k
  by_cases hz:k < 2 ^ 24∧-(2 ^ 24) < k∧a.length*k.toNat≤sizeLine
  ·rw [if_pos hz] at e
   cases e
   obtain ⟨z1,l1,v1,rfl,h1,r1⟩:=dd d1
   obtain rfl:=bF d2
   have hl:=bP r1
   refine Gi pins s σ H _ _ v u Q I rx ry ⟨l1,k,v1,rfl,rfl,sm _ _ h1,by omega,by omega,by rw [←hl];exact hz.2.2,fun p hp=>?_⟩
   have ex:=Ext.new sm hp (.lst (aH k.toNat v1).flatten)
   exact q _ _ _ ex (gA (by rw [len_rep,e8];exact hz.2.2) aL (cC ex.ff _ _ (Er r1 _)))
  ·rw [if_neg hz] at e;cases e
theorem QM:kG X (binaryOp .FloorDiv) (RD X.K (i9 .fdiv)):=Al Nr fun dx dy d e=>by
 cases dx<;>cases dy<;>simp only [i9,reduceCtorEq] at e
 rename_i i j
 by_cases hz:0 < j∧j < 1073741824
 ·rw [if_pos hz] at e
  cases e
  exact ⟨_,_,rfl,rfl,fun H Q k=>⟨_,_,rfl,rfl,hz,k _ fun _=>bR _⟩⟩
 ·rw [if_neg hz] at e;cases e
theorem TB:kG X (binaryOp .Mod) (RD X.K (i9 .mod)):=Al Qc fun dx dy d e=>by
 cases dx<;>cases dy<;>simp only [i9,reduceCtorEq] at e
 rename_i i j
 by_cases hz:0 < j
 ·rw [if_pos hz] at e
  cases e
  exact ⟨_,_,rfl,rfl,fun H Q k=>⟨_,_,rfl,rfl,hz,k _ fun _=>bR _⟩⟩
 ·rw [if_neg hz] at e;cases e
theorem TC:kG X (binaryOp .LShift) (RD X.K (i9 .shl)):=Al Qd fun dx dy d e=>by
 cases dx<;>cases dy<;>simp only [i9,reduceCtorEq] at e
 rename_i i j
 by_cases hz:0≤j∧j≤1000000∧i.natAbs < 2 ^ 64
 ·rw [if_pos hz] at e
  cases e
  exact ⟨_,_,rfl,rfl,fun H Q k=>⟨_,_,rfl,rfl,hz,k _ fun _=>bR _⟩⟩
 ·rw [if_neg hz] at e;cases e
theorem TF:kG X (binaryOp .BitOr) (RD X.K (i9 .bor)):=Al SF fun dx dy d e=>by
 cases dx<;>cases dy<;>simp only [i9,reduceCtorEq] at e
 cases e
 exact ⟨_,_,rfl,rfl,fun H Q k=>⟨_,_,rfl,rfl,k _ fun _=>bR _⟩⟩
theorem QN:kG X (binaryOp .BitAnd) (RD X.K (i9 .band)):=Al Qe fun dx dy d e=>by
 cases dx<;>cases dy<;>simp only [i9,reduceCtorEq] at e
 cases e
 exact ⟨_,_,rfl,rfl,fun H Q k=>⟨_,_,rfl,rfl,k _ fun _=>bR _⟩⟩
theorem W7:kG X (compareOp .Lt) (RD X.K (i9 .lt)):=Al OR fun dx dy d e=>by
 cases dx<;>cases dy<;>simp only [i9,reduceCtorEq] at e
 cases e
 exact ⟨_,_,rfl,rfl,fun H Q k=>⟨_,_,rfl,rfl,k _ fun _=>m6 _⟩⟩
theorem W8:kG X (compareOp .LtE) (RD X.K (i9 .le)):=Al SI fun dx dy d e=>by
 cases dx<;>cases dy<;>simp only [i9,reduceCtorEq] at e
 cases e
 exact ⟨_,_,rfl,rfl,fun H Q k=>⟨_,_,rfl,rfl,k _ fun _=>m6 _⟩⟩
theorem W9:kG X (compareOp .Gt) (RD X.K (i9 .gt)):=Al SJ fun dx dy d e=>by
 cases dx<;>cases dy<;>simp only [i9,reduceCtorEq] at e
 cases e
 exact ⟨_,_,rfl,rfl,fun H Q k=>⟨_,_,rfl,rfl,k _ fun _=>m6 _⟩⟩
theorem W_:kG X (compareOp .GtE) (RD X.K (i9 .ge)):=Al SK fun dx dy d e=>by
 cases dx<;>cases dy<;>simp only [i9,reduceCtorEq] at e
 cases e
 exact ⟨_,_,rfl,rfl,fun H Q k=>⟨_,_,rfl,rfl,k _ fun _=>m6 _⟩⟩
noncomputable def kf (ns:List Int):List PyData:=ns.map PyData.int
theorem vV:∀(x y:List Int),PyData.eqvAll (kf x) (kf y)=decide (x=y)
 | [],[]=>by simp [kf,PyData.eqvAll]
 | [],b::y=>by simp [kf,PyData.eqvAll]
 | a::x,[]=>by simp [kf,PyData.eqvAll]
 | a::x,b::y=>by
  have ih:=vV x y
  unfold kf at ih ⊢
  simp only [aO,PyData.eqvAll,PyData.eqv,ih]
  by_cases h1:a=b<;>by_cases h2:x=y<;>simp [h1,h2]
theorem sN {K:ab} {H:Hp}:∀ns:List Int,yi K H (ns.map V.int) (kf ns)
 | []=>.nil
 | n::ns=>.cons (.int n) (sN ns)
theorem NX {dx dy:D} {c:Bool} (h:Te dx dy=some c):(∃i j,dx=.int i∧dy=.int j∧c=decide (i=j))∨(∃i j,dx=.bl i∧dy=.bl j∧c=decide (i=j)) ∨
  ∃a b x y,dx=.lst a∧dy=.lst b∧intsOf a=some x∧intsOf b=some y∧c=decide (x=y):=by
 cases dx<;>cases dy<;>simp only [Te,reduceCtorEq,bC.injEq] at h
 ·exact .inr (.inl ⟨_,_,rfl,rfl,h.symm⟩)
 ·exact .inl ⟨_,_,rfl,rfl,h.symm⟩
 ·obtain ⟨x,e1,h⟩:=ae.mp h
  obtain ⟨y,e2,h⟩:=ae.mp h
  exact .inr (.inr ⟨_,_,x,y,rfl,rfl,e1,e2,(bC.inj h).symm⟩)
theorem vW:∀ns:List Int,PyData.canLayAll0 (kf ns)=true
 | []=>by simp [kf,PyData.canLayAll0]
 | n::ns=>by
  have ih:=vW ns
  unfold kf at ih ⊢
  rw [aO,PyData.canLayAll0,ih]
  simp [PyData.canLay0]
theorem yr:∀ns:List Int,PyData.depthAll (kf ns)=0
 | []=>by simp [kf,PyData.depthAll]
 | n::ns=>by
  have ih:=yr ns
  unfold kf at ih ⊢
  rw [aO,PyData.depthAll,ih]
  simp [PyData.depth]
theorem shaped_ints (ns:List Int):SeqAt.shaped (.list (kf ns))=true:=by
 unfold SeqAt.shaped
 simp [PyData.canLay0,vW,PyData.depth,yr]
theorem O3 {op:CmpOp} {k:Bool→Bool} (hs:kG X (compareOp op) (fun x y H Q=>Qh x y=true∧Q (.bl (k (decide (x=y)))) H)) (hd:kG X (compareOp op) (fun x y H Q=>∃d e,Dp X.K H x d∧Dp X.K H y e∧SeqAt.shaped d=true∧SeqAt.shaped e=true∧Q (.bl (k (PyData.eqv d e))) H)) :
  kG X (compareOp op) (RD X.K fun a b=>(Te a b).bind fun c=>some (.bl (k c))):=by
 rintro pins s σ H x y v u Q I rx ry ⟨F,dx,dy,d,sm,d1,d2,e,q⟩
 obtain ⟨c,e1,e2⟩:=ae.mp e
 cases e2
 rcases NX e1 with ⟨i,j,rfl,rfl,rfl⟩|⟨i,j,rfl,rfl,rfl⟩|⟨a,b,m,n,rfl,rfl,ha,hb,rfl⟩
 ·obtain rfl:=bF d1
  obtain rfl:=bF d2
  refine hs pins s σ H _ _ v u Q I rx ry ⟨rfl,?_⟩
  have z:decide (V.int i=V.int j)=decide (i=j):=by simp
  rw [z]
  exact q _ F H (.refl sm) (m6 _)
 ·obtain rfl:=uX d1
  obtain rfl:=uX d2
  refine hs pins s σ H _ _ v u Q I rx ry ⟨rfl,?_⟩
  have z:decide (V.bl i=V.bl j)=decide (i=j):=by simp
  rw [z]
  exact q _ F H (.refl sm) (m6 _)
 ·obtain ⟨z1,l1,v1,rfl,h1,r1⟩:=dd d1
  obtain ⟨z2,l2,v2,rfl,h2,r2⟩:=dd d2
  have q1:=mn ha r1
  have q2:=mn hb r2
  subst q1 q2
  refine hd pins s σ H _ _ v u Q I rx ry ⟨.list (kf m),.list (kf n),.lst (fo.of (sm _ _ h1)) (sN m),.lst (fo.of (sm _ _ h2)) (sN n),shaped_ints m,shaped_ints n,?_⟩
  have z:PyData.eqv (.list (kf m)) (.list (kf n))=decide (m=n):=by rw [←vV];simp [PyData.eqv]
  rw [z]
  exact q _ F H (.refl sm) (m6 _)
theorem Xd (hu:X.A.units+64 < cLine):kG X (compareOp .Eq) (RD X.K (i9 .eq)):=by
 have h:=O3 (X:=X) (k:=id) SG (Qu hu)
 rintro pins s σ H x y v u Q I rx ry ⟨F,dx,dy,d,sm,d1,d2,e,q⟩
 exact h pins s σ H x y v u Q I rx ry ⟨F,dx,dy,d,sm,d1,d2,e,q⟩
theorem Xe (hu:X.A.units+64 < cLine):kG X (compareOp .NotEq) (RD X.K (i9 .ne)):=by
 have h:=O3 (X:=X) (k:=not) SH (Qv hu)
 rintro pins s σ H x y v u Q I rx ry ⟨F,dx,dy,d,sm,d1,d2,e,q⟩
 exact h pins s σ H x y v u Q I rx ry ⟨F,dx,dy,d,sm,d1,d2,e,q⟩
theorem Et (i:Int):∀ns:List Int,SW (.int i) (ns.map V.int)=decide (i∈ns)
 | []=>by simp [SW]
 | n::ns=>by
  have ih:=Et i ns
  unfold SW at ih ⊢
  rw [aO,mi,ih]
  by_cases h:i=n
  ·subst h;simp [MX]
  ·have h':¬n=i:=fun z=>h z.symm
   simp [MX,h,h']
theorem BK:∀ns:List Int,(ns.map V.int).all tO=true
 | []=>rfl
 | n::ns=>by rw [aO,dk,BK ns];rfl
theorem NY {dx dy:D} {c:Bool} (h:inD dx dy=some c):∃i b y,dx=.int i∧(dy=.lst b∨dy=.tup b)∧intsOf b=some y∧c=decide (i∈y):=by
 cases dx<;>cases dy<;>simp only [inD,reduceCtorEq] at h
 ·obtain ⟨y,e2,h⟩:=ae.mp h
  exact ⟨_,_,y,rfl,.inl rfl,e2,(bC.inj h).symm⟩
 ·obtain ⟨y,e2,h⟩:=ae.mp h
  exact ⟨_,_,y,rfl,.inr rfl,e2,(bC.inj h).symm⟩
theorem TH {K:ab} {F H:Hp} {b:List D} {dy:D} {y:V} (sm:bW F H) (hd:dy=.lst b∨dy=.tup b) (h:Den K F dy y):∃p vs,y=.ref p∧(fo K H p vs∨yc K H p vs)∧cG K F b vs:=by
 rcases hd with rfl|rfl
 ·obtain ⟨z1,l1,v1,rfl,h1,r1⟩:=dd h
  exact ⟨l1,v1,rfl,.inl (fo.of (sm _ _ h1)),r1⟩
 ·obtain ⟨l1,v1,rfl,h1,r1⟩:=ra h
  exact ⟨l1,v1,rfl,.inr (mv sm h1),r1⟩
theorem O4 {op:CmpOp} {neg:Bool} (hs:kG X (compareOp op) (Wh X.K neg)):kG X (compareOp op) (RD X.K fun a b=>(inD a b).bind fun c=>some (.bl (if neg then !c else c))):=by
 rintro pins s σ H x y v u Q I rx ry ⟨F,dx,dy,d,sm,d1,d2,e,q⟩
 obtain ⟨c,e1,e2⟩:=ae.mp e
 cases e2
 obtain ⟨i,b,n,rfl,hb,hn,rfl⟩:=NY e1
 obtain rfl:=bF d1
 obtain ⟨p,vs,rfl,hq,r⟩:=TH sm hb d2
 have q2:=mn hn r
 subst q2
 refine hs pins s σ H _ _ v u Q I rx ry ⟨p,_,rfl,hq,rfl,BK n,?_⟩
 rw [Et]
 exact q _ F H (.refl sm) (m6 _)
theorem Xf:kG X (compareOp .In) (RD X.K (i9 .isin)):=by
 have h:=O4 (X:=X) Jg
 rintro pins s σ H x y v u Q I rx ry ⟨F,dx,dy,d,sm,d1,d2,e,q⟩
 exact h pins s σ H x y v u Q I rx ry ⟨F,dx,dy,d,sm,d1,d2,e,q⟩
theorem NZ:kG X (compareOp .NotIn) (RD X.K (i9 .r8)):=by
 have h:=O4 (X:=X) Cv
 rintro pins s σ H x y v u Q I rx ry ⟨F,dx,dy,d,sm,d1,d2,e,q⟩
 exact h pins s σ H x y v u Q I rx ry ⟨F,dx,dy,d,sm,d1,d2,e,q⟩
end
end Mi
namespace Mi
open PySem PySem.Spec PyProof.Rows L2
noncomputable def plain:Expr→Bool
 | .Name ..=>true
 | .Constant ..=>true
 | .BinOp ..=>true
 | .UnaryOp ..=>true
 | .BoolOp ..=>true
 | .Compare ..=>true
 | .Call ..=>true
 | .Attribute ..=>true
 | .Subscript ..=>true
 | .List ..=>true
 | .Tuple ..=>true
 | .ListComp ..=>true
 | .IfExp ..=>true
 | _=>false
theorem cX {x:Expr} {es:List Expr} {env:Env} (h:plain x=true):starEach (x::es) env=(false,eval x env)::starEach es env:=by
 cases x<;>first|rfl|(simp [plain] at h)
theorem m7 {env:Env} {pos:Pos}:∀{es:List Expr},es.all plain=true→(backTo pos (starEach es env)).any (·.1)=false
 | [],_=>rfl
 | x::es,h=>by
  rw [dk,aj] at h
  rw [cX h.1]
  have ih:=m7 (env:=env) (pos:=pos) h.2
  show (false||(backTo pos (starEach es env)).any (·.1))=false
  rw [ih];rfl
theorem yt {x:Expr} (op:CmpOp) (h:plain x=true):behindInMarks op x=false:=by
 cases x<;>first|rfl|(simp [plain] at h)
theorem oT {x:Expr} {env:Env} (h:plain x=true):∀v,foldedSetIterable x env v=pure v:=by
 intro v
 cases x<;>first|rfl|(simp [plain] at h)
theorem Lc {x:Expr} (h:plain x=true):HC x:=by
 intro o i
 cases x<;>first|rfl|(simp [plain] at h)
noncomputable def based:Expr→Bool
 | .Name ..=>true
 | .Attribute ..=>true
 | .Subscript ..=>true
 | _=>false
theorem yu {x:Expr} {f:Str} {env:Env} (h:based x=true):attributeBase x f env (eval x env)=eval x env:=by
 cases x<;>first|rfl|(simp [based] at h)
section
variable {X:Cx} {e a b:Expr} {es:List Expr} {pos p:Pos} {ea eb ev:eM→Option D} {el:eM→Option (List D)}
theorem Eu {K:ab} {F:Hp} {C:Addr} {gs:List (Str×V)} {f:Str}:∀{ns:List Str} {ds:List D} {vs:List V} {d:D},look f ns ds=some d→MZ K C gs ns vs→cG K F ds vs→∃v,jv K C f∧gs.lookup f=some v∧Den K F d v
 | [],_,_,_,h,_,_=>by simp [look] at h
 | _::_,[],_,_,h,_,_=>by simp [look] at h
 | n::ns,x::ds,vs,d,h,h1,h2=>by
  obtain ⟨v,r,rfl,d1,d2⟩:=bM h2
  unfold MZ at h1
  obtain ⟨v',r',e,na,lk,fr⟩:=h1
  cases e
  unfold look at h
  by_cases hn:n=f
  ·rw [if_pos hn] at h
   cases h
   subst hn
   exact ⟨v,na,lk,d1⟩
  ·rw [if_neg hn] at h
   exact Eu h fr d2
theorem TJ {f:Str} (h:PE X e (tM X.K ev)) (hb:based e=true):PE X (.Attribute e f pos) (tM X.K fun ρ=>(ev ρ).bind fun x=>qo x f) :=
 fL (kg h (yu hb)) fun σ H Q ⟨F,ρ,d,s,l,e,q⟩=>by
  obtain ⟨x,e1,e2⟩:=ae.mp e
  refine ⟨F,ρ,x,s,l,e1,fun v F' H' ex dn=>?_⟩
  cases x<;>simp only [qo,reduceCtorEq] at e2
  unfold Den at dn
  obtain ⟨a,C,dx,gs,vs,rfl,ha,c,fd,dl⟩:=dn
  obtain ⟨w,na,lk,dw⟩:=Eu e2 fd dl
  exact ⟨a,C,dx,gs,w,rfl,ex.fh _ _ ha,c,na,lk,q w F' H' ex dw⟩
theorem qp:PA X [] (HP X.K fun _=>some []):=K_ cw fun σ H Q ⟨F,ρ,d,s,l,e,q⟩=>by cases e;exact q _ F H (.refl s) bX
theorem km (ha:PE X a (tM X.K ea)) (hr:PA X es (HP X.K el)) (h:plain a=true):PA X (a::es) (HP X.K fun ρ=>(ea ρ).bind fun x=>(el ρ).bind fun xs=>some (x::xs)) :=
 K_ (br ha hr (cX h)) fun σ H Q ⟨F,ρ,d,s,l,e,q⟩=>by
  obtain ⟨x,e1,e2⟩:=ae.mp e
  obtain ⟨xs,e3,e4⟩:=ae.mp e2
  cases e4
  exact ⟨F,ρ,x,s,l,e1,fun v F1 H1 kn d1=>⟨F1,ρ,xs,kn.fh,l.mono kn.ff,e3,fun vs F2 H2 jb d2=>q _ F2 H2 (kn.trans jb) (bD (cT jb.ff _ _ d1) d2)⟩⟩
noncomputable def M0 (K:ab) (n:Nat) (g:List D→Option D):Sp:=fun vs H Q _=>vs.length=n∧∃F ds d,bW F H∧cG K F ds vs∧g ds=some d∧∀v F' H',Ext F H F' H'→Den K F' d v→Q v H'
structure Cc where
 P:Program
 w:World
 K:ab
 mg:Str→Option Value
 base:Heap
 k:Nat
structure fY (c:Cc) (x:Str) (g:List D→Option D):Prop where
 ex:∃(f:Addr) (fd:FuncData) (ps:List Str),eS c.P c.w c.K c.mg c.base iR c.k f fd ps (M0 c.K ps.length g)∧c.mg x=some (.ref f)∧dt c.K (.ref f)=true∧Binds c.K fd ps []∧∀ds d,g ds=some d→ds.length=ps.length
noncomputable def Cx.cc (X:Cx) (k:Nat):Cc:=⟨X.prog,X.w,X.K,X.mg,X.base,k⟩
theorem QO {x:Str} {g:List D→Option D} {k:Nat} (F:fY (Cx.cc X k) x g) (hr:kb k X.A) (hg:Gl X x) (ha:PA X es (HP X.K el)) (hp:es.all plain=true) (k6:es≠[]) (Ge:(x == ("__debug__" : Str))=false) :
  PE X (.Call (.Name x p) es [] pos) (tM X.K fun ρ=>(el ρ).bind g):=by
 obtain ⟨f,fd,ps,F,hm,hk,hb,Z4⟩:=F.ex
 have imp:∀σ H Q,tM X.K (fun ρ=>(el ρ).bind g) σ H Q→Hx (M0 X.K ps.length g) [] E0 (HP X.K el) σ H Q:=fun σ H Q ⟨F,ρ,d,s,l,e,q⟩=>by
  obtain ⟨xs,e1,e2⟩:=ae.mp e
  refine ⟨F,ρ,xs,s,l,e1,fun vs F1 H1 kn d1=>?_⟩
  show M0 X.K ps.length g (vs++[]) H1 Q E0
  rw [gn]
  exact ⟨by rw [←bP d1];exact Z4 _ _ e2,F1,xs,d,kn.fh,d1,e2,fun v F2 H2 jb d2=>q v F2 H2 (kn.trans jb) d2⟩
 cases es with
 | nil=>exact absurd rfl k6
 | cons a es =>
  rw [dk,aj] at hp
  exact fL (Hy F hr hg hm hk hb .nil K1 ha Ge (cX hp.1) (m7 hp.2)) imp
noncomputable def J9 (K:ab) (ev:eM→Option (List D)):TE:=fun σ H Q=>∃F ρ l,bW F H∧Slots K F σ ρ∧ev ρ=some l ∧
 ∀p vs F' H',Ext F H F' H'→H p=none→F' p=none→H' p=some (.lst vs)→l.length≤sizeLine→cG K F' l vs→Q (.ref p) H'
theorem QP {K:ab} {ev:eM→Option (List D)} {σ:L2.St} {H:Hp} {Q:VK} (h:tM K (fun ρ=>(ev ρ).bind fun l=>some (.lst l)) σ H Q):J9 K ev σ H Q:=by
 obtain ⟨F,ρ,d,s,sl,e,q⟩:=h
 obtain ⟨l,e1,e2⟩:=ae.mp e
 cases e2
 exact ⟨F,ρ,l,s,sl,e1,fun p vs F' H' ex hp fp hv hz dl=>q (.ref p) (upd F' p (.lst vs)) H' (ex.adopt hp hv fp) (gA hz aL (cC (eF fp _) _ _ dl))⟩
theorem O5 (h:PA X es (HP X.K el)) (hl:∀ρ ds,el ρ=some ds→ds.length≤sizeLine):PE X (.List es pos) (J9 X.K el) :=
 fL (uQ h) fun σ H Q ⟨F,ρ,xs,s,l,e1,q⟩ =>
  ⟨F,ρ,xs,s,l,e1,fun vs F1 H1 kn d1=>⟨by rw [←bP d1];exact hl _ _ e1,fun p hp=>q p vs F1 _ (kn.trans (Ext.Ti kn.fh hp _)) (same_none kn.hh hp) (same_none kn.fh hp) aL (hl _ _ e1) d1⟩⟩
theorem TK (h:PA X es (HP X.K el)) (hl:∀ρ ds,el ρ=some ds→ds.length≤sizeLine):PE X (.List es pos) (tM X.K fun ρ=>(el ρ).bind fun ds=>some (.lst ds)) :=
 fL (uQ h) fun σ H Q ⟨F,ρ,d,s,l,e,q⟩=>by
  obtain ⟨xs,e1,e2⟩:=ae.mp e
  cases e2
  refine ⟨F,ρ,xs,s,l,e1,fun vs F1 H1 kn d1=>⟨by rw [←bP d1];exact hl _ _ e1,fun p hp=>?_⟩⟩
  have jb:=Ext.new kn.fh hp (.lst vs)
  exact q _ _ _ (kn.trans jb) (gA (hl _ _ e1) aL (cC jb.ff _ _ d1))
theorem TM {k:Nat} (h:PA X es (HP X.K el)) (hl:∀ρ ds,el ρ=some ds→ds.length≤sizeLine):PE X (.Tuple es k pos) (tM X.K fun ρ=>(el ρ).bind fun ds=>some (.tup ds)) :=
 fL (KD h) fun σ H Q ⟨F,ρ,d,s,l,e,q⟩=>by
  obtain ⟨xs,e1,e2⟩:=ae.mp e
  cases e2
  refine ⟨F,ρ,xs,s,l,e1,fun vs F1 H1 kn d1=>⟨by rw [←bP d1];exact hl _ _ e1,fun p hp=>?_⟩⟩
  have jb:=Ext.new kn.fh hp (.tup vs)
  exact q _ _ _ (kn.trans jb) (yp (yc.of aL) (cC jb.ff _ _ d1))
theorem O6 {f:D→Option D} {r:List V→Hp→VK→Prop} (h:∀F dx d x H Q,bW F H→Den X.K F dx x→f dx=some d→(∀v F' H',Ext F H F' H'→Den X.K F' d v→Q v H')→r [x] H Q) {σ:L2.St} {H:Hp} {Q:VK}
  (hq:tM X.K (fun ρ=>(ea ρ).bind f) σ H Q):Wb r (HP X.K fun ρ=>(ea ρ).bind fun x=>((fun _=>some []) ρ:Option (List D)).bind fun xs=>some (x::xs)) σ H Q:=by
 obtain ⟨F,ρ,d,s,l,e,q⟩:=hq
 obtain ⟨x,e1,e2⟩:=ae.mp e
 refine ⟨F,ρ,[x],s,l,by simp [e1],fun vs F1 H1 kn d1=>?_⟩
 obtain ⟨v,r,rfl,d2,d3⟩:=bM d1
 obtain rfl:=bO d3
 exact h F1 x d v H1 Q kn.fh d2 e2 fun u F2 H2 jb dn=>q u F2 H2 (kn.trans jb) dn
theorem xC {x:Str} {id:String} {f:D→Option D} {r:List V→Hp→VK→Prop} (hc:tL X (.builtin id) r) (h:∀F dx d x H Q,bW F H→Den X.K F dx x→f dx=some d→(∀v F' H',Ext F H F' H'→Den X.K F' d v→Q v H')→r [x] H Q)
  (hg:Gl X x) (hm:X.mg x=none) (hv:bootBuiltins x=some (.builtin id)) (ha:PE X a (tM X.K ea)) (hp:plain a=true) (hn:x ≠ "__name__") (Ge:(x == ("__debug__" : Str))=false):PE X (.Call (.Name x p) [a] [] pos) (tM X.K fun ρ=>(ea ρ).bind f) :=
 fL (D6 hc hg hm hv (km ha qp hp) hn Ge (cX hp) rfl) fun _ _ _ q=>O6 h q
theorem Ld {x:Str} {id:String} {f:D→Option D} {r:List V→Hp→VK→Prop} (hc:tL X (.type id) r) (h:∀F dx d x H Q,bW F H→Den X.K F dx x→f dx=some d→(∀v F' H',Ext F H F' H'→Den X.K F' d v→Q v H')→r [x] H Q)
  (hg:Gl X x) (hm:X.mg x=none) (hv:bootBuiltins x=some (.type id)) (ha:PE X a (tM X.K ea)) (hp:plain a=true) (hn:x ≠ "__name__") (Ge:(x == ("__debug__" : Str))=false):PE X (.Call (.Name x p) [a] [] pos) (tM X.K fun ρ=>(ea ρ).bind f) :=
 fL (mm hc hg hm hv (km ha qp hp) hn Ge (cX hp) rfl) fun _ _ _ q=>O6 h q
theorem TN (hg:Gl X "len") (hm:X.mg "len" = none) (ha:PE X a (tM X.K ea)) (hp:plain a=true):PE X (.Call (.Name "len" p) [a] [] pos) (tM X.K fun ρ=>(ea ρ).bind fun x=>vU .len x) :=
 xC tQ (fun F dx d x H Q sm dn e q=>by
  cases dx<;>simp only [vU,reduceCtorEq] at e
  ·cases e
   obtain ⟨z1,l1,v1,rfl,h1,r1⟩:=dd dn
   exact ⟨l1,v1,rfl,.inl (fo.of (sm _ _ h1)),by rw [←bP r1];exact q _ F H (.refl sm) (bR _)⟩
  ·cases e
   obtain ⟨l1,v1,rfl,h1,r1⟩:=ra dn
   exact ⟨l1,v1,rfl,.inr (mv sm h1),by rw [←bP r1];exact q _ F H (.refl sm) (bR _)⟩) hg hm PySem.boot_len ha hp (by decide) (by decide)
theorem TQ (J6:X.calm=true) (hg:Gl X "all") (hm:X.mg "all" = none) (ha:PE X a (tM X.K ea)) (hp:plain a=true):PE X (.Call (.Name "all" p) [a] [] pos) (tM X.K fun ρ=>(ea ρ).bind fun x=>vU .all x) :=
 xC (Qt J6) (fun F dx d x H Q sm dn e q=>by
  cases dx<;>simp only [vU,reduceCtorEq] at e
  obtain ⟨bs,e1,e2⟩:=ae.mp e
  cases e2
  obtain ⟨z1,l1,v1,rfl,h1,r1⟩:=dd dn
  obtain rfl:=yo e1 r1
  exact ⟨l1,bs,rfl,fo.of (sm _ _ h1),q _ F H (.refl sm) (m6 _)⟩) hg hm boot_all ha hp (by decide) (by decide)
theorem TR (J6:X.calm=true) (hg:Gl X "any") (hm:X.mg "any" = none) (ha:PE X a (tM X.K ea)) (hp:plain a=true):PE X (.Call (.Name "any" p) [a] [] pos) (tM X.K fun ρ=>(ea ρ).bind fun x=>vU .any x) :=
 xC (Qs J6) (fun F dx d x H Q sm dn e q=>by
  cases dx<;>simp only [vU,reduceCtorEq] at e
  obtain ⟨bs,e1,e2⟩:=ae.mp e
  cases e2
  obtain ⟨z1,l1,v1,rfl,h1,r1⟩:=dd dn
  obtain rfl:=yo e1 r1
  exact ⟨l1,bs,rfl,fo.of (sm _ _ h1),q _ F H (.refl sm) (m6 _)⟩) hg hm boot_any ha hp (by decide) (by decide)
theorem TU (J6:X.calm=true) (hg:Gl X "sum") (hm:X.mg "sum" = none) (ha:PE X a (tM X.K ea)) (hp:plain a=true):PE X (.Call (.Name "sum" p) [a] [] pos) (tM X.K fun ρ=>(ea ρ).bind fun x=>vU .sum x) :=
 xC (Qr J6) (fun F dx d x H Q sm dn e q=>by
  cases dx<;>simp only [vU,reduceCtorEq] at e
  obtain ⟨bs,e1,e2⟩:=ae.mp e
  cases e2
  obtain ⟨z1,l1,v1,rfl,h1,r1⟩:=dd dn
  obtain rfl:=mn e1 r1
  exact ⟨l1,bs,rfl,fo.of (sm _ _ h1),q _ F H (.refl sm) (bR _)⟩) hg hm boot_sum ha hp (by decide) (by decide)
theorem QQ (hg:Gl X "list") (hm:X.mg "list" = none) (ha:PE X a (tM X.K ea)) (hp:plain a=true):PE X (.Call (.Name "list" p) [a] [] pos) (tM X.K fun ρ=>(ea ρ).bind fun x=>vU .list x) :=
 Ld iS (fun F dx d x H Q sm dn e q=>by
  cases dx<;>simp only [vU,reduceCtorEq] at e
  ·cases e
   obtain ⟨z1,l1,v1,rfl,h1,r1⟩:=dd dn
   refine ⟨l1,v1,rfl,.inl (fo.of (sm _ _ h1)),fun p hp=>?_⟩
   have jb:=Ext.new sm hp (.lst v1)
   exact q _ _ _ jb (gA z1 aL (cC jb.ff _ _ r1))
  ·rename_i l0
   by_cases hz:l0.length≤sizeLine
   ·rw [if_pos hz] at e
    cases e
    obtain ⟨l1,v1,rfl,h1,r1⟩:=ra dn
    refine ⟨l1,v1,rfl,.inr (mv sm h1),fun p hp=>?_⟩
    have jb:=Ext.new sm hp (.lst v1)
    exact q _ _ _ jb (gA hz aL (cC jb.ff _ _ r1))
   ·rw [if_neg hz] at e;cases e) hg hm boot_list ha hp (by decide) (by decide)
theorem TV (ha:PE X a (tM X.K ea)):PE X (.UnaryOp .USub a pos) (tM X.K fun ρ=>(ea ρ).bind fun x=>vU .neg x) :=
 fL (SE Qg ha) fun σ H Q ⟨F,ρ,d,s,l,e,q⟩=>by
  obtain ⟨x,e1,e2⟩:=ae.mp e
  refine ⟨F,ρ,x,s,l,e1,fun v F' H' ex dn=>?_⟩
  cases x<;>simp only [vU,reduceCtorEq] at e2
  cases e2
  exact ⟨_,bF dn,q _ F' H' ex (bR _)⟩
theorem HR {l:List D} {i:Int} {d:D} (h:RY l i=some d):∃k:Nat,i=(k:Int)∧l[k]?=some d:=by
 unfold RY at h
 split at h
 ·exact ⟨_,rfl,h⟩
 ·cases h
theorem Xg (ha:PE X a (tM X.K ea)) (hb:PE X b (tM X.K eb)) (hp:plain b=true):PE X (.Subscript a b pos) (tM X.K fun ρ=>(ea ρ).bind fun x=>(eb ρ).bind fun y=>Gn x y) :=
 fL (HD (OV.or xx Qk) ha hb (Lc hp)) fun σ H Q ⟨F,ρ,d,s,l,e,q⟩=>by
  obtain ⟨x,y,e1,e2,e3⟩:=QI e
  refine two s l e1 e2 fun v w F' H' ex d1 d2=>?_
  cases x<;>cases y<;>simp only [Gn,reduceCtorEq] at e3
  ·obtain ⟨k,rfl,hk⟩:=HR e3
   obtain ⟨z1,l1,v1,rfl,h1,r1⟩:=dd d1
   obtain ⟨u,hu,du⟩:=fK r1 hk
   exact .inl ⟨l1,v1,_,u,rfl,bF d2,fo.of (ex.fh _ _ h1),HB hu,q u F' H' ex du⟩
  ·obtain ⟨k,rfl,hk⟩:=HR e3
   obtain ⟨l1,v1,rfl,h1,r1⟩:=ra d1
   obtain ⟨u,hu,du⟩:=fK r1 hk
   exact .inr ⟨l1,v1,_,u,rfl,bF d2,mv ex.fh h1,HB hu,q u F' H' ex du⟩
theorem Xh:PO X none (QH X.K fun _=>some none):=La NC fun σ H Q ⟨F,ρ,d,s,l,e,q⟩=>by cases e;exact q F H (.refl s)
theorem TX (h:PE X a (tM X.K ea)):PO X (some a) (QH X.K fun ρ=>(ea ρ).bind fun x=>(intOf x).bind fun i=>some (some i)) :=
 La (tN h) fun σ H Q ⟨F,ρ,d,s,l,e,q⟩=>by
  obtain ⟨x,e1,e2⟩:=ae.mp e
  obtain ⟨i,e3,e4⟩:=ae.mp e2
  cases e4
  obtain rfl:x=.int i:=by cases x<;>simp [intOf] at e3;rw [e3]
  exact ⟨F,ρ,_,s,l,e1,fun v F' H' ex dn=>⟨i,bF dn,q F' H' ex⟩⟩
theorem xD {n d:Nat} {o:Option Int} {k:Nat} (h:RZ n d o=some k):HT.D7 n d o=k:=by
 unfold RZ at h
 split at h
 ·cases h;rfl
 ·cases h;exact HT.Nz _ _ _
 ·cases h
theorem Xi {lo hi:Option Expr} {p2:Pos} {fl fh:eM→Option (Option Int)} (ha:PE X a (tM X.K ea)) (hl:PO X lo (QH X.K fl)) (hh:PO X hi (QH X.K fh)) :
  PE X (.Subscript a (.Slice lo hi none p2) pos) (tM X.K fun ρ=>(ea ρ).bind fun x=>(fl ρ).bind fun l=>(fh ρ).bind fun h=>J7 x l h) :=
 fL (yf Cu ha hl hh) fun σ H Q ⟨F,ρ,d,s,l,e,q⟩=>by
  obtain ⟨x,e1,e⟩:=ae.mp e
  obtain ⟨o1,e2,e⟩:=ae.mp e
  obtain ⟨o2,e3,e⟩:=ae.mp e
  refine ⟨F,ρ,x,s,l,e1,fun v F1 H1 kn dn=>⟨F1,ρ,o1,kn.fh,l.mono kn.ff,e2,fun F2 H2 jb=>⟨F2,ρ,o2,jb.fh,(l.mono kn.ff).mono jb.ff,e3,fun F3 H3 xE=>?_⟩⟩⟩
  cases x<;>simp only [J7,reduceCtorEq] at e
  rename_i ds
  obtain ⟨k1,b1,e⟩:=ae.mp e
  obtain ⟨k2,b2,e⟩:=ae.mp e
  cases e
  obtain ⟨z1,l1,v1,rfl,h1,r1⟩:=dd (cT (jb.trans xE).ff _ _ dn)
  refine ⟨l1,v1,rfl,fo.of (xE.fh _ _ h1),fun p hp=>?_⟩
  have hlen:=bP r1
  have ec:D8 v1 o1 o2=(v1.drop k1).take (k2 - k1):=by
   unfold D8
   rw [←hlen,xD b1,xD b2]
  rw [ec]
  have tW:=Ext.new xE.fh hp (.lst ((v1.drop k1).take (k2 - k1)))
  refine q _ _ _ (kn.trans (jb.trans (xE.trans tW))) (gA ?_ aL (cC tW.ff _ _ (BH _ (uW _ r1))))
  rw [c0,Af]
  omega
theorem N0 {K:ab} {F:Hp} {a:Addr} {l:List D} {vs:List V} (z:l.length≤sizeLine) (h:F a=some (.lst vs)) (r:cG K F l vs):Jr K F (RR K a) l where
 len:=z
 stop:=fun i H s hi=>⟨vs,fo.of (s _ _ h),by rw [←bP r];exact hi⟩
 go:=fun i d H s e=>by
  obtain ⟨v,hv,_⟩:=fK r e
  exact ⟨vs,v,fo.of (s _ _ h),hv⟩
 IX:=fun i d H s e x H' y F1 s1 s2=>by
  obtain ⟨v,hv,dv⟩:=fK r e
  obtain ⟨rfl,y⟩:=y
  have e1:=y vs (fo.of (s _ _ h))
  rw [hv] at e1
  cases e1
  exact ⟨F1,.refl s2,cT s1 _ _ dv⟩
theorem yw:∀(n:Nat) (lo:Int) (i:Nat) (d:D),(tU lo n)[i]?=some d→i < n∧d=.int (lo+i)
 | 0,lo,i,d,h=>by simp [tU] at h
 | n+1,lo,0,d,h=>by
  simp [tU] at h
  exact ⟨by omega,by rw [←h];simp⟩
 | n+1,lo,i+1,d,h=>by
  obtain ⟨h1,h2⟩:=yw n (lo+1) i d (by simpa [tU] using h)
  refine ⟨by omega,?_⟩
  rw [h2]
  have:lo+1+(i:Int)=lo+((i+1:Nat):Int):=by omega
  rw [this]
theorem yx:∀(n:Nat) (lo:Int),(tU lo n).length=n
 | 0,_=>rfl
 | n+1,lo=>by simp [tU,yx n]
theorem Le {K:ab} {F:Hp} {lo:Int} {n:Nat} (z:n≤sizeLine):Jr K F (Sv lo n) (tU lo n) where
 len:=by rw [yx];exact z
 stop:=fun i H s hi=>by rw [yx] at hi;exact hi
 go:=fun i d H s e=>(yw _ _ _ _ e).1
 IX:=fun i d H s e x H' y F1 s1 s2=>by
  obtain ⟨rfl,rfl⟩:=y
  rw [(yw _ _ _ _ e).2]
  exact ⟨F1,.refl s2,bR _⟩
theorem u0:∀(l:List D) (k:Nat),(oB k l).length=l.length
 | [],_=>rfl
 | d::r,k=>by simp [oB,u0 r]
theorem u1:∀(l:List D) (k i:Nat) (d:D),(oB k l)[i]?=some d→∃x,l[i]?=some x∧d=.tup [.int ((k+i:Nat):Int),x]
 | [],k,i,d,h=>by simp [oB] at h
 | y::r,k,0,d,h=>by
  simp [oB] at h
  exact ⟨y,rfl,by rw [←h];simp⟩
 | y::r,k,i+1,d,h=>by
  obtain ⟨x,h1,h2⟩:=u1 r (k+1) i d (by simpa [oB] using h)
  refine ⟨x,by simpa using h1,?_⟩
  rw [h2]
  have:k+1+i=k+(i+1):=by omega
  rw [this]
theorem N1 {K:ab} {F:Hp} {a:Addr} {l:List D} {vs:List V} (z:l.length≤sizeLine) (h:F a=some (.lst vs)) (r:cG K F l vs):Jr K F (WO K a) (oB 0 l) where
 len:=by rw [u0];exact z
 stop:=fun i H s hi=>⟨vs,fo.of (s _ _ h),by rw [←bP r,←u0 l 0];exact hi⟩
 go:=fun i d H s e=>by
  obtain ⟨x,hx,_⟩:=u1 _ _ _ _ e
  obtain ⟨v,hv,_⟩:=fK r hx
  exact ⟨vs,v,fo.of (s _ _ h),hv⟩
 IX:=fun i d H s e x H' y F1 s1 s2=>by
  obtain ⟨u,hu,rfl⟩:=u1 _ _ _ _ e
  obtain ⟨v,hv,dv⟩:=fK r hu
  obtain ⟨T,w,rfl,hT,rfl,y⟩:=y
  have e1:=y vs (fo.of (s _ _ h))
  rw [hv] at e1
  cases e1
  have ex:=Ext.new s2 hT (.tup [.int ((i:Nat):Int),v])
  refine ⟨_,ex,yp (yc.of aL) ?_⟩
  rw [cj]
  exact bD (bR _) (bD (cT (s1.trans ex.ff) _ _ dv) bX)
theorem yy:∀(l m:List D) (i:Nat) (d:D),(sL l m)[i]?=some d→∃x y,l[i]?=some x∧m[i]?=some y∧d=.tup [x,y]
 | [],_,i,d,h=>by simp [sL] at h
 | _::_,[],i,d,h=>by simp [sL] at h
 | x::l,y::m,0,d,h=>by
  simp [sL] at h
  exact ⟨x,y,rfl,rfl,h.symm⟩
 | x::l,y::m,i+1,d,h=>by
  obtain ⟨u,v,h1,h2,h3⟩:=yy l m i d (by simpa [sL] using h)
  exact ⟨u,v,by simpa using h1,by simpa using h2,h3⟩
theorem yz:∀(l m:List D),(sL l m).length=min l.length m.length
 | [],_=>by simp [sL]
 | _::_,[]=>by simp [sL]
 | x::l,y::m=>by simp [sL,yz l m]
theorem QR {K:ab} {F:Hp} {a b:Addr} {l m:List D} {vs us:List V} (z:l.length≤sizeLine) (h:F a=some (.lst vs)) (r:cG K F l vs) (h':F b=some (.lst us)) (r':cG K F m us):Jr K F (WS K a b) (sL l m) where
 len:=by rw [yz];omega
 stop:=fun i H s hi=>⟨vs,us,fo.of (s _ _ h),fo.of (s _ _ h'),by rw [yz] at hi;rw [←bP r,←bP r'];omega⟩
 go:=fun i d H s e=>by
  obtain ⟨x,y,hx,hy,_⟩:=yy _ _ _ _ e
  obtain ⟨v,hv,_⟩:=fK r hx
  obtain ⟨w,hw,_⟩:=fK r' hy
  exact ⟨vs,us,v,w,fo.of (s _ _ h),fo.of (s _ _ h'),hv,hw⟩
 IX:=fun i d H s e x H' y F1 s1 s2=>by
  obtain ⟨p,q,hp,hq,rfl⟩:=yy _ _ _ _ e
  obtain ⟨v,hv,dv⟩:=fK r hp
  obtain ⟨w,hw,dw⟩:=fK r' hq
  obtain ⟨T,x1,x2,rfl,hT,rfl,y1,y2⟩:=y
  have e1:=y1 vs (fo.of (s _ _ h))
  have e2:=y2 us (fo.of (s _ _ h'))
  rw [hv] at e1
  rw [hw] at e2
  cases e1
  cases e2
  have ex:=Ext.new s2 hT (.tup [v,w])
  refine ⟨_,ex,yp (yc.of aL) ?_⟩
  exact bD (cT (s1.trans ex.ff) _ _ dv) (bD (cT (s1.trans ex.ff) _ _ dw) bX)
theorem HS {α:Type} {l:List α} {i:Nat} {d:α} (h:l.reverse[i]?=some d):i < l.length∧l[l.length - 1 - i]?=some d:=by
 have hi:i < l.reverse.length:=(cv.mp h).1
 rw [a9] at hi
 rw [JZ hi] at h
 exact ⟨hi,h⟩
theorem QS {K:ab} {F:Hp} {a:Addr} {l:List D} {vs:List V} (z:l.length≤sizeLine) (h:F a=some (.lst vs)) (r:cG K F l vs):Jr K F (WM K a vs.length) l.reverse where
 len:=by rw [a9];exact z
 stop:=fun i H s hi=>by
  rw [a9,bP r] at hi
  exact hi
 go:=fun i d H s e=>by
  obtain ⟨hi,e⟩:=HS e
  obtain ⟨v,hv,_⟩:=fK r e
  rw [bP r] at hi hv
  exact ⟨hi,vs,v,fo.of (s _ _ h),hv⟩
 IX:=fun i d H s e x H' y F1 s1 s2=>by
  obtain ⟨hi,e⟩:=HS e
  obtain ⟨v,hv,dv⟩:=fK r e
  rw [bP r] at hi hv
  obtain ⟨rfl,y⟩:=y
  have e1:=y vs (fo.of (s _ _ h))
  rw [hv] at e1
  cases e1
  exact ⟨F1,.refl s2,cT s1 _ _ dv⟩
theorem QT {tg:Expr} (h:PE X a (tM X.K ea)):PI X tg a (HQ X.K fun ρ=>(ea ρ).bind NV) :=
 uZ (Hq h) fun σ H Q ⟨F,ρ,ds,s,l,e,q⟩=>by
  obtain ⟨x,e1,e2⟩:=ae.mp e
  obtain rfl:x=.lst ds:=by cases x<;>simp [NV] at e2;rw [e2]
  refine ⟨F,ρ,_,s,l,e1,fun v F' H' ex dn=>?_⟩
  obtain ⟨z1,l1,v1,rfl,h1,r1⟩:=dd dn
  exact ⟨l1,rfl,⟨v1,fo.of (ex.fh _ _ h1)⟩,q _ F' H' ex (N0 z1 h1 r1)⟩
theorem HU {lo:Int} {x:D} {ds:List D} (h:itR lo x=some ds):∃j:Int,x=.int j∧-(2 ^ 24) < lo∧lo < 2 ^ 24∧-(2 ^ 24) < j∧j < 2 ^ 24∧(j - lo).toNat≤sizeLine∧ds=tU lo (j - lo).toNat:=by
 cases x<;>simp only [itR,reduceCtorEq] at h
 rename_i j
 by_cases hz:-(2 ^ 24) < lo∧lo < 2 ^ 24∧-(2 ^ 24) < j∧j < 2 ^ 24∧(j - lo).toNat≤sizeLine
 ·rw [if_pos hz] at h
  exact ⟨j,rfl,hz.1,hz.2.1,hz.2.2.1,hz.2.2.2.1,hz.2.2.2.2,(bC.inj h).symm⟩
 ·rw [if_neg hz] at h;cases h
theorem TY {tg:Expr} (hg:Gl X "range") (hm:X.mg "range" = none) (h:PE X a (tM X.K ea)) (hp:plain a=true):PI X tg (.Call (.Name "range" p) [a] [] pos) (HQ X.K fun ρ=>(ea ρ).bind (itR 0)) :=
 uZ (IZ hg hm (km h qp hp) (by rw [cX hp];rfl)) fun σ H Q ⟨F,ρ,ds,s,l,e,q⟩=>by
  obtain ⟨x,e1,e2⟩:=ae.mp e
  obtain ⟨j,rfl,_,_,j1,j2,z,rfl⟩:=HU e2
  refine ⟨F,ρ,[.int j],s,l,by simp [e1],fun vs F' H' ex dn=>?_⟩
  obtain ⟨v,r,rfl,d1,d2⟩:=bM dn
  obtain rfl:=bO d2
  obtain rfl:=bF d1
  have ej:(j - 0).toNat=j.toNat:=by rw [Int.sub_zero]
  rw [ej] at q z
  exact ⟨j,rfl,by omega,by omega,q _ F' H' ex (Le z)⟩
theorem QU {tg:Expr} (hg:Gl X "range") (hm:X.mg "range" = none) (ha:PE X a (tM X.K ea)) (hb:PE X b (tM X.K eb)) (HV:plain a=true) (R0:plain b=true) :
  PI X tg (.Call (.Name "range" p) [a,b] [] pos) (HQ X.K fun ρ=>(ea ρ).bind fun x=>(eb ρ).bind fun y=>Gp x y) :=
 uZ (I0 hg hm (km ha (km hb qp R0) HV) (by rw [cX HV,cX R0];rfl) (by rw [cX R0];rfl)) fun σ H Q ⟨F,ρ,ds,s,l,e,q⟩=>by
  obtain ⟨x,e1,e⟩:=ae.mp e
  obtain ⟨y,e2,e⟩:=ae.mp e
  obtain ⟨i,rfl⟩:∃i,x=.int i:=by cases x<;>simp only [Gp,reduceCtorEq] at e;exact ⟨_,rfl⟩
  simp only [Gp] at e
  obtain ⟨j,rfl,i1,i2,j1,j2,z,rfl⟩:=HU e
  refine ⟨F,ρ,[.int i,.int j],s,l,by simp [e1,e2],fun vs F' H' ex dn=>?_⟩
  obtain ⟨v,r,rfl,d1,d2⟩:=bM dn
  obtain ⟨v2,r,rfl,d3,d4⟩:=bM d2
  obtain rfl:=bO d4
  obtain rfl:=bF d1
  obtain rfl:=bF d3
  exact ⟨i,j,rfl,⟨by omega,by omega,by omega,by omega⟩,q _ F' H' ex (Le z)⟩
theorem QV {elts:List Expr} {kk:Nat} {uP:Pos} (hg:Gl X "enumerate") (hm:X.mg "enumerate" = none) (h:PE X a (tM X.K ea)) (hp:plain a=true) :
  PI X (.Tuple elts kk uP) (.Call (.Name "enumerate" p) [a] [] pos) (HQ X.K fun ρ=>(ea ρ).bind fun x=>(NV x).bind fun l=>some (oB 0 l)) :=
 uZ (NQ hg hm (km h qp hp) (by rw [cX hp];rfl)) fun σ H Q ⟨F,ρ,ds,s,l,e,q⟩=>by
  obtain ⟨x,e1,e2⟩:=ae.mp e
  obtain ⟨xs,e3,e4⟩:=ae.mp e2
  cases e4
  obtain rfl:x=.lst xs:=by cases x<;>simp [NV] at e3;rw [e3]
  refine ⟨F,ρ,[.lst xs],s,l,by simp [e1],fun vs F' H' ex dn=>?_⟩
  obtain ⟨v,r,rfl,d1,d2⟩:=bM dn
  obtain rfl:=bO d2
  obtain ⟨z1,l1,v1,rfl,h1,r1⟩:=dd d1
  exact ⟨l1,v1,rfl,fo.of (ex.fh _ _ h1),q _ F' H' ex (N1 z1 h1 r1)⟩
theorem TZ {elts:List Expr} {kk:Nat} {uP:Pos} (hg:Gl X "zip") (hm:X.mg "zip" = none) (ha:PE X a (tM X.K ea)) (hb:PE X b (tM X.K eb)) (HV:plain a=true) (R0:plain b=true) :
  PI X (.Tuple elts kk uP) (.Call (.Name "zip" p) [a,b] [] pos) (HQ X.K fun ρ=>(ea ρ).bind fun x=>(eb ρ).bind fun y=>Vk x y) :=
 uZ (QC hg hm (km ha (km hb qp R0) HV) (cX HV) (m7 (by simp [R0]))) fun σ H Q ⟨F,ρ,ds,s,l,e,q⟩=>by
  obtain ⟨x,e1,e⟩:=ae.mp e
  obtain ⟨y,e2,e⟩:=ae.mp e
  obtain ⟨xs,ys,rfl,rfl⟩:∃xs ys,x=.lst xs∧y=.lst ys:=by cases x<;>cases y<;>simp only [Vk,reduceCtorEq] at e;exact ⟨_,_,rfl,rfl⟩
  simp only [Vk] at e
  cases e
  refine ⟨F,ρ,[.lst xs,.lst ys],s,l,by simp [e1,e2],fun vs F' H' ex dn=>?_⟩
  obtain ⟨v,r,rfl,d1,d2⟩:=bM dn
  obtain ⟨v2,r,rfl,d3,d4⟩:=bM d2
  obtain rfl:=bO d4
  obtain ⟨z1,l1,v1,rfl,h1,r1⟩:=dd d1
  obtain ⟨z2,l2,v2,rfl,h2,r2⟩:=dd d3
  exact ⟨l1,l2,v1,v2,rfl,fo.of (ex.fh _ _ h1),fo.of (ex.fh _ _ h2),q _ F' H' ex (QR z1 h1 r1 h2 r2)⟩
theorem T1 {tg:Expr} (hg:Gl X "reversed") (hm:X.mg "reversed" = none) (h:PE X a (tM X.K ea)) (hp:plain a=true):PI X tg (.Call (.Name "reversed" p) [a] [] pos) (HQ X.K fun ρ=>(ea ρ).bind fun x=>(NV x).bind fun l=>some l.reverse) :=
 uZ (Eh hg hm (km h qp hp) (by rw [cX hp];rfl)) fun σ H Q ⟨F,ρ,ds,s,l,e,q⟩=>by
  obtain ⟨x,e1,e2⟩:=ae.mp e
  obtain ⟨xs,e3,e4⟩:=ae.mp e2
  cases e4
  obtain rfl:x=.lst xs:=by cases x<;>simp [NV] at e3;rw [e3]
  refine ⟨F,ρ,[.lst xs],s,l,by simp [e1],fun vs F' H' ex dn=>?_⟩
  obtain ⟨v,r,rfl,d1,d2⟩:=bM dn
  obtain rfl:=bO d2
  obtain ⟨z1,l1,v1,rfl,h1,r1⟩:=dd d1
  exact ⟨l1,v1,rfl,fo.of (ex.fh _ _ h1),q _ F' H' ex (QS z1 h1 r1)⟩
noncomputable def CF (K:ab):Tg→TG
 | .nm i=>lA i
 | .tp [i,j]=>Su K 2 (Kq (lA i) (Kq (lA j) Sr))
 | .tp _=>fun _ _ _ _=>False
theorem qr (σ:L2.St):∀(vs:List Nat) (j:Nat),(wipe σ vs)[j]?=if j∈vs∧j < σ.length then some none else σ[j]?
 | [],j=>by simp [L2.wipe]
 | v::vs,j=>by
  unfold L2.wipe
  by_cases hv:v=j
  ·subst hv
   by_cases hl:v < σ.length
   ·rw [b6 (by rw [iC];exact hl)]
    simp [hl]
   ·rw [b0 (by rw [cO,iC];omega),b0 (by omega)]
    simp [hl]
  ·rw [bo hv,qr σ vs j]
   have:¬j=v:=fun z=>hv z.symm
   simp [this]
theorem yA {σ:L2.St} {vs:List Nat} {i:Nat} {x:Option V} (h:i∈vs):wipe (σ.set i x) vs=wipe σ vs:=by
 apply kT
 intro j
 rw [qr,qr,cO]
 by_cases hj:j∈vs∧j < σ.length
 ·rw [if_pos hj,if_pos hj]
 ·rw [if_neg hj,if_neg hj]
  by_cases O7:i=j
  ·subst O7
   have:¬i < σ.length:=fun z=>hj ⟨h,z⟩
   rw [b0 (by rw [cO];omega),b0 (by omega)]
  ·rw [bo O7]
theorem Js (σ:L2.St) (vs:List Nat):wipe (wipe σ vs) vs=wipe σ vs:=by
 apply kT
 intro j
 rw [qr,qr,iC]
 by_cases hj:j∈vs∧j < σ.length
 ·rw [if_pos hj,if_pos hj]
 ·rw [if_neg hj,if_neg hj]
theorem Xj {K:ab} {F H:Hp} {σ:L2.St} {ρ HW:eM} {t:Tg} {d:D} {v:V} {Q:L2.St→Hp→Prop} (ht:∀l,t=.tp l→l.length=2) (s:bW F H) (l:Slots K F σ ρ) (dn:Den K F d v) (e:Jp t d ρ=some HW)
  (q:∀fJ,Slots K F fJ HW→wipe fJ t.slots=wipe σ t.slots→Q fJ H):CF K t v σ H Q:=by
 cases t with
 | nm i =>
  simp [Jp] at e
  subst e
  exact q _ (l.set dn) (yA (by simp [Tg.slots]))
 | tp is =>
  have h2:=ht is rfl
  match is,h2 with
  | [i,j],_ =>
   cases d<;>simp only [Jp,reduceCtorEq] at e
   rename_i ds
   obtain ⟨a,vs,rfl,hs,dl⟩:=ra dn
   match ds,e with
   | [x,y],e =>
    simp [BD] at e
    subst e
    obtain ⟨v1,r,rfl,d1,d2⟩:=bM dl
    obtain ⟨v2,r,rfl,d3,d4⟩:=bM d2
    obtain rfl:=bO d4
    refine ⟨a,[v1,v2],rfl,mv s hs,rfl,v1,[v2],rfl,v2,[],rfl,rfl,?_⟩
    refine q _ ((l.set d1).set d3) ?_
    rw [yA (by simp [Tg.slots]),yA (by simp [Tg.slots])]
   | [],e=>simp [BD] at e
   | [_],e=>simp [BD] at e
   | _::_::_::_,e=>simp [BD] at e
theorem Lf {K:ab} {t:Tg} {ei:eM→Option (List D)} {ec:eM→Option Bool} {ee:eM→Option D} {σ:L2.St} {H:Hp} {Q:VK} (ht:∀l,t=.tp l→l.length=2)
  (h:J9 K (fun ρ=>(ei ρ).bind fun ds=>i_ ec ee t (jB ρ t.slots) ds) σ H Q):OX (HQ K ei) (CF K t) (tV K ec) (tM K ee) t.slots σ H Q:=by
 obtain ⟨F,ρ,out,s,sl,e,q⟩:=h
 obtain ⟨ds,e1,e2⟩:=ae.mp e
 refine ⟨F,ρ,ds,s,sl,e1,fun J F1 H1 kn it=>fun D hD=>?_⟩
 refine ⟨fun i m H2=>m=ds.length - i∧i≤ds.length∧∃(F2:Hp) (acc:List Mi.D) (vs:List V) (rest:List Mi.D),Ext F1 H1 F2 H2∧F2 D=none∧H2 D=some (.lst vs)∧cG K F2 acc vs∧i_ ec ee t (jB ρ t.slots) (ds.drop i)=some rest∧out=acc++rest∧acc.length≤i,
  ⟨ds.length,by simp,c8 _,F1,[],[],out,Ext.Ti kn.fh hD _,same_none kn.fh hD,aL,bX,e2,rfl,aY _⟩,?_⟩
 rintro i m H2 ⟨rfl,hi,F2,acc,vs,rest,O8,fD,R1,N2,Gs,eo,Ew⟩
 have QW:bW F1 H2:=O8.ff.trans O8.fh
 have sF:Slots K F2 σ ρ:=(sl.mono kn.ff).mono O8.ff
 by_cases D3:i < ds.length
 ·obtain ⟨x,hx⟩:∃x,ds[i]?=some x:=⟨_,au D3⟩
  have Lg:ds.drop i=x::ds.drop (i+1):=by
   rw [FO D3]
   congr 1
   rw [au D3] at hx
   exact bC.inj hx
  rw [Lg] at Gs
  unfold i_ at Gs
  obtain ⟨Tf,s1,Gs⟩:=ae.mp Gs
  obtain ⟨b,s2,Gs⟩:=ae.mp Gs
  refine .inr ⟨it.go i x H2 QW hx,fun H'=>(i+1≤ds.length∧∃(F2:Hp) (acc:List Mi.D) (vs:List V) (rest:List Mi.D),Ext F1 H1 F2 H'∧F2 D=none∧H' D=some (.lst vs)∧cG K F2 acc vs∧i_ ec ee t (jB ρ t.slots) (ds.drop (i+1))=some rest∧out=acc++rest∧acc.length≤i+1),fun H' hn=>⟨ds.length - (i+1),by omega,rfl,hn.1,hn.2⟩,fun y H3 hy=>?_⟩
  obtain ⟨F3,xE,dy⟩:=it.IX i x H2 QW hx y H3 hy F2 O8.ff O8.fh
  have Z5:F3 D=none:=xE.nw D fD (by rw [R1];exact fun z=>nomatch z)
  refine Xj ht xE.fh ((sF.mono xE.ff).wipe t.slots) dy s1 fun MS M1 hw=>⟨by rw [hw,Js],F3,Tf,b,xE.fh,M1,s2,fun F4 H4 tW=>?_⟩
  have Yr:F4 D=none:=tW.nw D Z5 (by rw [xE.hh D _ R1];exact fun z=>nomatch z)
  cases b with
  | true =>
   obtain ⟨z,s3,Gs⟩:=ae.mp Gs
   obtain ⟨zs,s4,Gs⟩:=ae.mp Gs
   cases Gs
   refine ⟨F4,Tf,z,tW.fh,M1.mono tW.ff,s3,fun w F5 H5 Lh dw=>?_⟩
   have Ys:F5 D=none:=Lh.nw D Yr (by rw [tW.hh D _ (xE.hh D _ R1)];exact fun z=>nomatch z)
   have Z6:H5 D=some (.lst vs):=Lh.hh D _ (tW.hh D _ (xE.hh D _ R1))
   have O9:Ext F2 H2 F5 H5:=xE.trans (tW.trans Lh)
   have hl:=bP N2
   have hz:=it.len
   refine ⟨vs,Z6,by omega,by omega,F5,acc++[z],vs++[w],zs,(O8.trans O9).write hD Ys,Ys,aL,jN (cC O9.ff _ _ N2) (bD dw bX),s4,by rw [eo,de];rfl,by rw [ax,sv];omega⟩
  | false =>
   have O9:Ext F2 H2 F4 H4:=xE.trans tW
   exact ⟨by omega,F4,acc,vs,rest,O8.trans O9,Yr,O9.hh D _ R1,cC O9.ff _ _ N2,Gs,eo,by omega⟩
 ·have Xk:i=ds.length:=by omega
  subst Xk
  rw [Py] at Gs
  simp [i_] at Gs
  subst Gs
  rw [gn] at eo
  subst eo
  have hz:=it.len
  have Z7:H D=none:=same_none kn.hh hD
  exact .inl ⟨it.stop _ H2 QW (aY _),q D vs F2 H2 (kn.trans O8) Z7 fD R1 (by omega) N2⟩
theorem O_ {K:ab} {t:Tg} {ei:eM→Option (List D)} {ec:eM→Option Bool} {ee:eM→Option D} {σ:L2.St} {H:Hp} {Q:VK} (ht:∀l,t=.tp l→l.length=2)
  (h:tM K (fun ρ=>(ei ρ).bind fun ds=>(i_ ec ee t (jB ρ t.slots) ds).bind fun l=>some (.lst l)) σ H Q):OX (HQ K ei) (CF K t) (tV K ec) (tM K ee) t.slots σ H Q:=by
 refine Lf ht (QP ?_)
 obtain ⟨F,ρ,d,s,sl,e,q⟩:=h
 refine ⟨F,ρ,d,s,sl,?_,q⟩
 obtain ⟨ds,e1,e2⟩:=ae.mp e
 show ((ei ρ).bind fun ds=>i_ ec ee t (jB ρ t.slots) ds).bind (fun l=>some (D.lst l))=some d
 rw [e1]
 exact e2
end
end Mi
namespace PySem
section
variable {prog:Program} {w:World} {A:Around} {E:Value→Shared→Prop} {s:Shared}
theorem Jt:typeLookup (.type "list_reverseiterator") "__len__" = pure none:=by rw [typeLookup_type,builtinLookup_eq_fast];kernel_rfl
theorem Li:typeLookup (.type "list_reverseiterator") "__length_hint__" = pure (some (.builtin "list_reverseiterator.__length_hint__")):=by rw [typeLookup_type,builtinLookup_eq_fast];kernel_rfl
theorem Gu {R:Result→Shared→Prop} {I l:Addr} {items:Array Value} (hh:A.handled=none) (k6:l≠I) (hl:s.heap.IsList l items) (hit:s.heap.IsRevIter I l ((items.size:Int) - 1)) (hlen:items.size≤sizeLine) (S:Addr) (T2:S≠I) (Vl:S≠l) (res:Value) (c₀:Nat) (hS:s.heap.get? S=some { cls:=.type "list",data:=.seq #[] c₀ })
  (hR:∀h' tk tX c',(∀b o,b≠S→b≠I→s.heap.get? b=some o→h'.get? b=some o)→h'.get? S=some { cls:=.type "list",dict:=none,data:=.seq tX c',slots:=#[] } →
   ItemsOf (fun i v=>items[items.size - 1 - i]?=some v) tX items.size→R (.ok (.ret res)) { s with heap:=h',toks:=tk }) :
  wpAny (model prog w) A.in1 (Builtin.List.listExtendWith (.ref S) (.ref I) res)
   (fun fin s'=>match fin with|.done f=>R (.ok f) s'|.again c'=>c'.quiet=true∧codeAny (model prog w) A c' R s') (fun e s'=>R (.error e) s') s:=by
 have W:=(Walks.listRev (prog:=prog) (w:=w) (A:=A.in1) hh I l k6 items).toS
 have Z8:S ∉ [I,l]:=fun hm=>by
  rcases aG.mp hm with e|hm
  ·exact T2 e
  ·exact Vl (b3.mp hm)
 have P6:(0:Nat)≤items.size∧s.heap.IsRevIter I l ((items.size:Int) - 1 - ((0:Nat):Int))∧s.heap.IsList l items:=⟨c8 _,by simpa using hit,hl⟩
 have hT:s.TypeIs (.ref I) "list_reverseiterator" := hit.typeIs
 have h1:Builtin.List.listSameRef (.ref S) (.ref I)=false:=by simp [Builtin.List.listSameRef,T2]
 unfold Builtin.List.listExtendWith
 refine wpAny_bind (wpAny_typeOf hT ?_)
 rw [if_neg (by rw [h1];decide)]
 refine wpAny_bind (wpAny_pyIter_revIter hit ?_)
 refine wpAny_bind (wpAny_holding ?_)
 unfold Builtin.List.listLengthHint
 refine wpAny_bind (wpAny_specialOf hT Jt ?_)
 show wpAny _ A.in1 (specialOf (Value.ref I) (Str.ofString "__length_hint__") >>= _) _ _ _
 refine wpAny_bind (wpAny_specialOf hT Li ?_)
 generalize Yt:("list_reverseiterator.__length_hint__" : String)=Z9
 wp_delta
 rw [show splitId Z9=some ("list_reverseiterator","__length_hint__") from by subst Yt;decide +kernel]
 subst Yt
 refine wpAny_bind (wpAny_isInstance (b:=true) hT (by rw [isSubtype_type];kernel_rfl) ?_)
 refine wpAny_pure ?_
 rw [if_neg (by decide)]
 refine wpAny_pure ⟨plainId_quiet F.plain_extend_loop _,codeAny_extend_loopS W hlen S Z8 res items.size 0 s #[] c₀ rfl (c8 _) P6 hS (ItemsOf.nil _) fun s' tX c' hm T3 Ew=>?_⟩
 rw [Moved.eq_with hm]
 refine hR s'.heap s'.toks tX c' (fun b o hb Xl e=>hm.heap b o (fun yh=>?_) e) T3 Ew
 rcases aG.mp yh with e'|yh
 ·exact hb e'
 ·exact Xl (b3.mp yh)
theorem Am {R:Result→Shared→Prop} {I l:Addr} {items:Array Value} (hh:A.handled=none) (k6:l≠I) (hl:s.heap.IsList l items) (hit:s.heap.IsRevIter I l ((items.size:Int) - 1)) (hlen:items.size≤sizeLine) (S:Addr) (T2:S≠I) (Vl:S≠l) (hS:s.heap.get? S=some { cls:=.type "list",data:=.seq #[] })
  (hR:∀h' tk tX c',(∀b o,b≠S→b≠I→s.heap.get? b=some o→h'.get? b=some o)→h'.get? S=some { cls:=.type "list",dict:=none,data:=.seq tX c',slots:=#[] } →
   ItemsOf (fun i v=>items[items.size - 1 - i]?=some v) tX items.size→R (.ok (.ret .none)) { s with heap:=h',toks:=tk }) :
  wpAny (model prog w) A.in1 (Builtin.«list.__init__» ⟨[.ref S,.ref I],[]⟩)
   (fun fin s'=>match fin with|.done f=>R (.ok f) s'|.again c'=>c'.quiet=true∧codeAny (model prog w) A c' R s') (fun e s'=>R (.error e) s') s:=by
 show wpAny _ _ (do let old ←Builtin.List.listItems (.ref S);Builtin.List.listUpdate (.ref S) (fun _=>#[]);letGo old.toList.reverse;Builtin.List.listExtendWith (.ref S) (.ref I) .none) _ _ s
 refine wpAny_bind ?_
 unfold Builtin.List.listItems
 refine wpAny_bind (wpAny_seqItems hS rfl (wpAny_pure ?_))
 show wpAny _ _ (updateSeq S (fun _=>#[]) >>= fun _=>letGo (#[]:Array Value).toList.reverse >>= fun _=>Builtin.List.listExtendWith (.ref S) (.ref I) .none) _ _ s
 refine wpAny_bind (wpAny_updateSeq hS rfl ?_)
 have T4:=Heap.get?_update_self (Obj.mapSeq (fun _=>(#[]:Array Value))) hS rfl
 have Xm:∀b o,b≠S→s.heap.get? b=some o→(s.heap.update S (Obj.mapSeq (fun _=>(#[]:Array Value)))).get? b=some o :=
  fun b o hb e=>(Heap.get?_update_other _ _ (Ne.symm hb)).trans e
 refine wpAny_bind (wpAny_letGo ?_)
 refine Gu hh k6 (hl.at fun o e=>Xm l o (Ne.symm Vl) e) (hit.at fun o e=>Xm I o (Ne.symm T2) e) hlen S T2 Vl .none _ T4 fun h' tk tX c' hk T3 Ew=>?_
 exact hR h' tk tX c' (fun b o hb Xl e=>hk b o hb Xl (Xm b o hb e)) T3 Ew
theorem An {Q:Value→Shared→Prop} {I l:Addr} {items:Array Value} (hh:A.handled=none) (k6:l≠I) (hl:s.heap.IsList l items) (hit:s.heap.IsRevIter I l ((items.size:Int) - 1)) (hlen:items.size≤sizeLine)
  (hQ:∀h' tk tX c',(∀b o,b≠I→s.heap.get? b=some o→h'.get? b=some o) →
   h'.get? s.heap.objs.size=some { cls:=.type "list",dict:=none,data:=.seq tX c',slots:=#[] }→ItemsOf (fun i v=>items[items.size - 1 - i]?=some v) tX items.size→Q (.ref s.heap.objs.size) { s with heap:=h',toks:=tk }) :
  wpAny (model prog w) A (call (.type "list") [.ref I]) Q E s:=by
 refine callType_codes (Q₁:=fun obj fQ=>obj=.ref s.heap.objs.size∧fQ={ s with heap:=s.heap.push { cls:=.type "list",data:=.seq #[] } }) F.called_list (F.typeCall_list_1 _) F.entry_list_init
  (code_list_new _ ⟨rfl,rfl⟩) fun obj fQ NK=>?_
 obtain ⟨rfl,rfl⟩:=NK
 have hS:(s.heap.push { cls:=.type "list",data:=.seq #[] }).get? s.heap.objs.size=some { cls:=.type "list",data:=.seq #[] }:=Heap.get?_push_size _ rfl
 have Z_:I < s.heap.objs.size:=by obtain ⟨_,q,_⟩:=hit;exact Heap.lt_size q
 have Vm:l < s.heap.objs.size:=by obtain ⟨_,q,_⟩:=hl;exact Heap.lt_size q
 refine ⟨⟨_,hS,rfl⟩,F.args_list_init_2 _ _,Am (A:=A.in1) hh k6 (hl.at fun o e=>Heap.get?_push_of_some _ e) (hit.at fun o e=>Heap.get?_push_of_some _ e) hlen _ (r0 Z_) (r0 Vm) hS fun h' tk tX c' hk T3 Ew=>?_⟩
 exact ⟨rfl,hQ h' tk tX c' (fun b o hb e=>hk b o (cF (Heap.lt_size e)) hb (Heap.get?_push_of_some _ e)) T3 Ew⟩
end
end PySem
namespace Mi
open PySem PySem.Spec PyProof.Rows L2
section
variable {X:Cx} {e a b:Expr} {es:List Expr} {pos p:Pos} {ea eb ev:eM→Option D} {el:eM→Option (List D)}
theorem QX:RQ X .BitOr (V0 fun i j=>Builtin.bitOr i j):=by
 intro pins s σ H x y v u Q I r1 r2 h
 obtain ⟨i,j,e1,e2,q⟩:=h
 subst e1;subst e2
 obtain ⟨t,rfl⟩:=r1
 obtain ⟨t',rfl⟩:=r2
 exact ior_int ⟨.int _,H,I.tok _,⟨_,rfl⟩,q⟩
noncomputable def Xn (K:ab):V→List V→Hp→VK→Prop:=fun x vs H Q=>∃(a:Addr) (ns:List Int) (k:Int),x=.ref a∧vs=[.int k]∧fo K H a (ns.map V.int)∧Q (.int (ns.count k:Nat)) H
theorem QY:Vd X "list.count" (Xn X.K):=by
 intro pins s σ H x xs v us Q I rx rxs h
 obtain ⟨a,ns,k,rfl,rfl,hs,q⟩:=h
 cases rx
 obtain ⟨u,rfl,ru⟩:=rxs.one
 obtain ⟨t,rfl⟩:=ru
 obtain ⟨bU,rv,hl,_⟩:=I.list hs
 exact count_list_ints hl.isList (intsAre_of rv) ⟨.int _,H,I.tok _,⟨_,rfl⟩,q⟩
theorem T5 {apos kh:Pos} (ha:PE X a (tM X.K ea)) (hb:based a=true) (hv:PE X b (tM X.K eb)) (hp:plain b=true) (hl:(apos.endLine == kh.line)=true) :
  PE X (.Call (.Attribute a "count" apos) [b] [] kh) (tM X.K fun ρ=>(ea ρ).bind fun x=>(eb ρ).bind fun y=>Jq x y) :=
 fL (tR PySem.F.plainAttrs_list PySem.F.slot_list_count PySem.F.type_list_count QY ha (km hv qp hp) (yu hb) (by rw [cX hp];rfl) hl (cX hp) rfl) fun σ H Q ⟨F,ρ,d,s,l,e,q⟩=>by
  obtain ⟨x,y,e1,e2,e3⟩:=QI e
  refine ⟨F,ρ,x,s,l,e1,fun v F1 H1 kn d1=>?_⟩
  cases x<;>cases y<;>simp only [Jq,reduceCtorEq] at e3
  obtain ⟨ns,e4,e5⟩:=ae.mp e3
  cases e5
  rename_i ds k
  obtain ⟨z1,l1,v1,rfl,h1,r1⟩:=dd d1
  obtain rfl:=mn e4 r1
  refine ⟨.inl ⟨rfl,_,fo.of (kn.fh _ _ h1)⟩,F1,ρ,[.int k],kn.fh,l.mono kn.ff,by simp [e2],fun vs F2 H2 jb dn=>?_⟩
  obtain ⟨u,r,rfl,d2,d3⟩:=bM dn
  obtain rfl:=bO d3
  exact ⟨l1,ns,k,rfl,by rw [bF d2],fo.of (jb.hh _ _ (kn.fh _ _ h1)),q _ F2 H2 (kn.trans jb) (bR _)⟩
theorem BL {K:ab} {F:Hp} {ds:List D} {vs:List V} (h:cG K F ds vs):∀ix:List Nat,cG K F (ix.filterMap fun j=>ds[j]?) (ix.filterMap fun j=>vs[j]?)
 | []=>bX
 | j::ix=>by
  have ih:=BL h ix
  rw [d_,d_]
  cases e:ds[j]? with
  | none =>
   have e2:vs[j]?=none:=by
    rw [oQ] at e ⊢
    rw [←bP h];exact e
   rw [e2];exact ih
  | some d =>
   obtain ⟨v,hv,dv⟩:=fK h e
   rw [hv]
   exact bD dv ih
theorem BM {vs:List V} {us:List Value} (h:Vals vs us):∀ix:List Nat,Vals (ix.filterMap fun j=>vs[j]?) (ix.filterMap fun j=>us[j]?)
 | []=>.nil
 | j::ix=>by
  have ih:=BM h ix
  rw [d_,d_]
  cases e:vs[j]? with
  | none=>rw [h.none_of e];exact ih
  | some v =>
   obtain ⟨u,hu,ru⟩:=h.get e
   rw [hu]
   exact .cons ru ih
theorem Ex (i k n:Nat) (hk:0 < k):sliceBounds (some (i:Int)) none (some (k:Int)) n=(((min i n:Nat):Int),(n:Int),(k:Int)):=by
 unfold sliceBounds
 have h1:¬(i:Int) < 0:=by omega
 have h2:(k:Int) > 0:=by omega
 simp [h1,h2]
 omega
theorem QZ {lo st:Expr} {p2:Pos} {eo RP:eM→Option D} (ha:PE X a (tM X.K ea)) (hl:PE X lo (tM X.K eo)) (hs:PE X st (tM X.K RP)) :
  PE X (.Subscript a (.Slice (some lo) none (some st) p2) pos) (tM X.K fun ρ=>(ea ρ).bind fun x=>(eo ρ).bind fun l=>(RP ρ).bind fun h=>Eo x l h):=by
 intro pins s σ H Q I h
 obtain ⟨F,ρ,d,sm,sl,e,q⟩:=h
 obtain ⟨x,e1,e⟩:=ae.mp e
 obtain ⟨y,e2,e⟩:=ae.mp e
 obtain ⟨z,e3,e⟩:=ae.mp e
 obtain ⟨ds,i,k,rfl,rfl,rfl,hk,hz,rfl⟩:∃(ds:List D) (i k:Nat),x=.lst ds∧y=.int (i:Int)∧z=.int (k:Int)∧0 < k∧(pick ds i k).length≤sizeLine∧d=.lst (pick ds i k):=by
  unfold Eo at e
  split at e
  ·split at e
   ·rename_i hz
    exact ⟨_,_,_,rfl,rfl,rfl,hz.1,hz.2,(bC.inj e).symm⟩
   ·cases e
  ·cases e
 refine Subscript_ (iy (ha pins s σ H (fun v H1=>∃F1,Ext F H F1 H1∧Den X.K F1 (.lst ds) v) I ⟨F,ρ,_,sm,sl,e1,fun v F1 H1 ex dn=>⟨F1,ex,dn⟩⟩) fun v s1 ⟨vx,H1,I1,r1,F1,kn,dn1⟩=>?_)
 refine wpAny_Slice ?_
 rw [evalPart_some,evalPart_none,evalPart_some]
 refine iy (hl pins s1 σ H1 (fun v H2=>∃F2,Ext F1 H1 F2 H2∧Den X.K F2 (.int (i:Int)) v) I1 ⟨F1,ρ,_,kn.fh,sl.mono kn.ff,e2,fun v F1 H1 ex dn=>⟨F1,ex,dn⟩⟩) fun vl s2 ⟨vy,H2,I2,r2,F2,jb,dn2⟩=>?_
 refine wpAny_pure ?_
 refine iy (hs pins s2 σ H2 (fun v H3=>∃F3,Ext F2 H2 F3 H3∧Den X.K F3 (.int (k:Int)) v) I2 ⟨F2,ρ,_,jb.fh,(sl.mono kn.ff).mono jb.ff,e3,fun v F1 H1 ex dn=>⟨F1,ex,dn⟩⟩) fun vs s3 ⟨vz,H3,I3,r3,F3,xE,dn3⟩=>?_
 obtain rfl:=bF dn2
 obtain rfl:=bF dn3
 obtain ⟨t2,rfl⟩:=r2
 obtain ⟨t3,rfl⟩:=r3
 obtain ⟨z1,l1,v1,rfl,h1,rr⟩:=dd (cT (jb.trans xE).ff _ _ dn1)
 cases r1
 have I4:Inv X pins σ H3 { s3 with heap:=s3.heap.push { cls:=.type "slice",data:=.fields #[.int i t2,.none,.int k t3] } }:=I3.kept (t':=s3.toks) fun b ob q=>Heap.get?_push_of_some _ q
 obtain ⟨bU,r,ht,hsz⟩:=I4.list (fo.of (xE.fh _ _ h1))
 have hlen:=r.length
 have Pa:=bP rr
 show wpAny (model X.prog X.w) X.A (subscriptTail a (.Slice (some lo) none (some st) p2) (.ref l1) (.ref s3.heap.objs.size)) (EP X pins σ Q) X.xe { s3 with heap:=s3.heap.push { cls:=.type "slice",data:=.fields #[.int i t2,.none,.int k t3] } }
 refine tail_any (ops:=[.ref l1,.ref s3.heap.objs.size]) ht.isList.typeIs slot_list_getitem.lookup ?_ (by with_unfolding_all rfl)
 refine wpAny_getItem_list_slice (lo:=some (i:Int)) (hi:=none) (st:=some (k:Int)) ht.isList (Heap.IsSliceOf.new ..) (.int _ _) .none (.int _ _) (by simp;omega) ?_ (by rw [aJ]<;>omega)
 have ep:slicePick bU.toArray (some (i:Int)) none (some (k:Int))=((sliceRange (min i ds.length:Nat) (ds.length:Nat) (k:Nat)).filterMap fun j=>bU[j]?).toArray:=by
  unfold slicePick
  rw [Ex i k _ hk]
  simp only [aJ,←hlen,←Pa,J0]
 rw [ep]
 have hp:=(I4.gk).fresh (aY _)
 have tW:=Ext.new xE.fh hp (.lst ((sliceRange (min i ds.length:Nat) (ds.length:Nat) (k:Nat)).filterMap fun j=>v1[j]?))
 have dp:cG X.K F3 (pick ds i k) ((sliceRange (min i ds.length:Nat) (ds.length:Nat) (k:Nat)).filterMap fun j=>v1[j]?):=BL rr _
 refine ⟨.ref _,_,I4.Qo (t':=s3.toks) (BM r _) (by rw [←bP dp];exact hz),rfl,q _ _ _ (kn.trans (jb.trans (xE.trans tW))) (gA hz aL (cC tW.ff _ _ dp))⟩
theorem Ju {items:List Value} {acc:Array Value} (h:ItemsOf (fun i v=>items.toArray[items.toArray.size - 1 - i]?=some v) acc items.toArray.size):acc=items.reverse.toArray:=by
 obtain ⟨h1,h2⟩:=h
 have key:acc.toList=items.reverse:=by
  apply kT
  intro j
  rw [Array.getElem?_toList]
  by_cases hj:j < items.length
  ·have R3:j < acc.size:=by rw [h1,aJ];exact hj
   have e:items.toArray[items.toArray.size - 1 - j]?=some acc[j]:=h2 j acc[j] (Array.getElem?_eq_getElem R3)
   rw [J0,aJ] at e
   rw [Array.getElem?_eq_getElem R3,JZ hj,e]
  ·have R3:acc.size≤j:=by rw [h1,aJ];omega
   rw [Array.getElem?_eq_none R3,b0 (by rw [a9];omega)]
 rw [←key]
theorem T6 {q1 q2:Pos} (J6:X.calm=true) (hg:Gl X "list") (hm:X.mg "list" = none) (hg2:Gl X "reversed") (hm2:X.mg "reversed" = none) (ha:PE X a (tM X.K ea)) (hp:plain a=true) :
  PE X (.Call (.Name "list" p) [.Call (.Name "reversed" q1) [a] [] q2] [] pos) (tM X.K fun ρ=>(ea ρ).bind fun x=>vU .rev x):=by
 intro pins s σ H Q I h
 obtain ⟨F,ρ,d,sm,sl,e,q⟩:=h
 obtain ⟨x,e1,e2⟩:=ae.mp e
 obtain ⟨ds,rfl,rfl⟩:∃ds,x=.lst ds∧d=.lst ds.reverse:=by
  cases x<;>simp only [vU,reduceCtorEq] at e2
  exact ⟨_,rfl,(bC.inj e2).symm⟩
 refine wpAny_Call_Name_kw (oR I hg hm boot_list ?_ (by decide) (by decide))
 refine PyProof.Rows.callWith_type1 ?_ rfl rfl
 refine Calls.spliced_cons ?_
 refine Call_ (oR I hg2 hm2 ql (PyProof.Rows.callWith_type1 (iy ((km ha qp hp) q2 pins s σ H (fun vs H1=>∃v F1,vs=[v]∧Ext F H F1 H1∧Den X.K F1 (.lst ds) v) I ⟨F,ρ,[.lst ds],sm,sl,by simp [e1],fun vs F1 H1 ex dn=>?_⟩) fun us s1 ⟨vs,H1,I1,r1,v,F1,ev1,kn,dn⟩=>?_) (by rw [cX hp]) rfl))
 ·obtain ⟨v,r,rfl,d1,d2⟩:=bM dn
  obtain rfl:=bO d2
  exact ⟨v,F1,rfl,ex,d1⟩
 ·subst ev1
  obtain ⟨u,rfl,ru⟩:=r1.one
  obtain ⟨z1,l1,v1,rfl,h1,rr⟩:=dd dn
  cases ru
  obtain ⟨bU,rv,pl,hz⟩:=I1.list (fo.of (kn.fh _ _ h1))
  have hlen:=rv.length
  have Pa:=bP rr
  refine call_reversed_list pl.isList ?_
  have I2:Inv X pins σ H1 { s1 with heap:=s1.heap.push (revObj l1 ((bU.toArray.size:Int) - 1)) }:=I1.kept (t':=s1.toks) fun b o e=>Heap.get?_push_of_some _ e
  have hit:(s1.heap.push (revObj l1 ((bU.toArray.size:Int) - 1))).IsRevIter s1.heap.objs.size l1 ((bU.toArray.size:Int) - 1):=⟨_,Heap.get?_push_size _ rfl,rfl,rfl⟩
  have k6:l1≠s1.heap.objs.size:=cF pl.lt
  refine Calls.spliced_nil ?_
  refine An (I.ok.hd J6) k6 (pl.isList.at fun o e=>Heap.get?_push_of_some _ e) hit (by rw [aJ];omega) fun h' tk acc c hk hS Ew=>?_
  have ea:=Ju Ew
  subst ea
  have hf:∀b∈[s1.heap.objs.size],uM X pins H1 b:=fun b hb=>by
   obtain rfl:=b3.mp hb
   exact I1.FZ (aY _) I1.fresh
  have new:jA X.prog X.w (upd H1 (s1.heap.push (revObj l1 ((bU.toArray.size:Int) - 1))).objs.size (.lst v1.reverse)) h' (s1.heap.push (revObj l1 ((bU.toArray.size:Int) - 1))).objs.size (.lst v1.reverse) :=
   ⟨by rw [a9];exact hz,bU.reverse,c,rv.reverse,hS⟩
  have I3:=I2.uV (t':=tk) (ch:=[s1.heap.objs.size]) (fun b ob hb q=>hk b ob (fun z=>hb (by simp [z])) q) hf (aY _) new
  have RU:H1 (s1.heap.push (revObj l1 ((bU.toArray.size:Int) - 1))).objs.size=none:=I2.fresh
  have jb:=Ext.new kn.fh RU (.lst v1.reverse)
  exact ⟨.ref _,_,I3,rfl,q _ _ _ (kn.trans jb) (gA (by rw [a9];exact z1) aL (cC jb.ff _ _ (Ep rr)))⟩
end
end Mi
namespace Mi
open PySem PySem.Spec PyProof.Rows L2
noncomputable def yB (x:Expr) (k:Str→Bool):Bool:=match x with|.Name n _=>k n|_=>false
noncomputable def rb (x:Expr) (k:Const→Bool):Bool:=match x with|.Constant c _ _=>k c|_=>false
noncomputable def HX (x:Expr) (k:Expr→Operator→Expr→Bool):Bool:=match x with|.BinOp a o b _=>k a o b|_=>false
noncomputable def Jv (x:Expr) (k:UnaryOp→Expr→Bool):Bool:=match x with|.UnaryOp o a _=>k o a|_=>false
noncomputable def yC (x:Expr) (k:BoolOp→List Expr→Bool):Bool:=match x with|.BoolOp o l _=>k o l|_=>false
noncomputable def HY (x:Expr) (k:Expr→CmpOp→Expr→Bool):Bool:=match x with|.Compare a [o] [b] _=>k a o b|_=>false
noncomputable def N3 (x:Expr) (k:Expr→Expr→Expr→Bool):Bool:=match x with|.IfExp c a b _=>k c a b|_=>false
noncomputable def CG (x:Expr) (k:Expr→Str→Bool):Bool:=match x with|.Attribute a f _=>k a f|_=>false
noncomputable def jO (x:Expr) (k:Str→List Expr→Bool):Bool:=match x with|.Call (.Name f _) l [] _=>k f l|_=>false
noncomputable def CH (x:Expr) (k:Expr→Str→List Expr→Bool):Bool:=match x with|.Call (.Attribute o m apos) l [] kh=>(apos.endLine == kh.line)&&k o m l|_=>false
noncomputable def CI (x:Expr) (k:List Expr→Bool):Bool:=match x with|.List l _=>k l|_=>false
noncomputable def xF (x:Expr) (k:List Expr→Bool):Bool:=match x with|.Tuple l _ _=>k l|_=>false
noncomputable def BN (x:Expr) (k:Expr→Expr→Bool):Bool:=match x with|.Subscript a b _=>k a b|_=>false
noncomputable def xG (x:Expr) (k:Option Expr→Option Expr→Option Expr→Bool):Bool:=match x with|.Slice a b c _=>k a b c|_=>false
noncomputable def Gv (x:Expr) (k:Expr→Expr→Expr→List Expr→Scope→Bool):Bool:=match x with|.ListComp e [⟨t,i,l,0⟩] s _=>k e t i l s|_=>false
theorem ko {x:Expr} {k:Str→Bool} (h:yB x k=true):∃n p,x=.Name n p∧k n=true:=by unfold yB at h;split at h;exact ⟨_,_,rfl,h⟩;cases h
theorem f_ {x:Expr} {k:Const→Bool} (h:rb x k=true):∃n j p,x=.Constant n j p∧k n=true:=by unfold rb at h;split at h;exact ⟨_,_,_,rfl,h⟩;cases h
theorem u4 {x:Expr} {k:Expr→Operator→Expr→Bool} (h:HX x k=true):∃a o b p,x=.BinOp a o b p∧k a o b=true:=by unfold HX at h;split at h;exact ⟨_,_,_,_,rfl,h⟩;cases h
theorem oC {x:Expr} {k:UnaryOp→Expr→Bool} (h:Jv x k=true):∃o a p,x=.UnaryOp o a p∧k o a=true:=by unfold Jv at h;split at h;exact ⟨_,_,_,rfl,h⟩;cases h
theorem kq {x:Expr} {k:BoolOp→List Expr→Bool} (h:yC x k=true):∃o a p,x=.BoolOp o a p∧k o a=true:=by unfold yC at h;split at h;exact ⟨_,_,_,rfl,h⟩;cases h
theorem u5 {x:Expr} {k:Expr→CmpOp→Expr→Bool} (h:HY x k=true):∃a o b p,x=.Compare a [o] [b] p∧k a o b=true:=by unfold HY at h;split at h;exact ⟨_,_,_,_,rfl,h⟩;cases h
theorem Ey {x:Expr} {k:Expr→Expr→Expr→Bool} (h:N3 x k=true):∃c a b p,x=.IfExp c a b p∧k c a b=true:=by unfold N3 at h;split at h;exact ⟨_,_,_,_,rfl,h⟩;cases h
theorem sP {x:Expr} {k:Expr→Str→Bool} (h:CG x k=true):∃a f p,x=.Attribute a f p∧k a f=true:=by unfold CG at h;split at h;exact ⟨_,_,_,rfl,h⟩;cases h
theorem cJ {x:Expr} {k:Str→List Expr→Bool} (h:jO x k=true):∃f p l q,x=.Call (.Name f p) l [] q∧k f l=true:=by unfold jO at h;split at h;exact ⟨_,_,_,_,rfl,h⟩;cases h
theorem sQ {x:Expr} {k:Expr→Str→List Expr→Bool} (h:CH x k=true):∃o m p l q,x=.Call (.Attribute o m p) l [] q∧(p.endLine == q.line)=true∧k o m l=true:=by
 unfold CH at h;split at h
 ·rw [aj] at h;exact ⟨_,_,_,_,_,rfl,h.1,h.2⟩
 ·cases h
theorem mw {x:Expr} {k:List Expr→Bool} (h:CI x k=true):∃l p,x=.List l p∧k l=true:=by unfold CI at h;split at h;exact ⟨_,_,rfl,h⟩;cases h
theorem qs {x:Expr} {k:List Expr→Bool} (h:xF x k=true):∃l j p,x=.Tuple l j p∧k l=true:=by unfold xF at h;split at h;exact ⟨_,_,_,rfl,h⟩;cases h
theorem iT {x:Expr} {k:Expr→Expr→Bool} (h:BN x k=true):∃a b p,x=.Subscript a b p∧k a b=true:=by unfold BN at h;split at h;exact ⟨_,_,_,rfl,h⟩;cases h
theorem vX {x:Expr} {k:Option Expr→Option Expr→Option Expr→Bool} (h:xG x k=true):∃a b c p,x=.Slice a b c p∧k a b c=true:=by unfold xG at h;split at h;exact ⟨_,_,_,_,rfl,h⟩;cases h
theorem oU {x:Expr} {k:Expr→Expr→Expr→List Expr→Scope→Bool} (h:Gv x k=true):∃e t i l s p,x=.ListComp e [⟨t,i,l,0⟩] s p∧k e t i l s=true:=by unfold Gv at h;split at h;exact ⟨_,_,_,_,_,_,rfl,h⟩;cases h
noncomputable def Lj (sc:Scope) (x:Str):Bool:=match sc.names.lookup x with|some .local=>true|some .cell=>true|some .free=>true|_=>false
noncomputable def Jw (sc:Scope) (x:Str):Bool:=match sc.names.lookup x with|some .local=>true|some .cell=>true|_=>false
noncomputable def pY (sc:Scope) (x:Str):Bool:=match sc.names.lookup x with|some .globalImplicit=>true|_=>false
noncomputable def sR (x:Str):Bool:=!(x == ("__debug__" : Str))&&!(x == ("__classdict__" : Str))
noncomputable def Es.len:Es→Nat
 | .nil=>0
 | .cons _ r=>r.len+1
noncomputable def Lk:O2→Option Operator
 | .add=>some .Add|.sub=>some .Sub|.mul=>some .Mult|.fdiv=>some .FloorDiv|.mod=>some .Mod|.shl=>some .LShift|.bor=>some .BitOr|.band=>some .BitAnd
 | _=>none
noncomputable def Ll:O2→Option CmpOp
 | .lt=>some .Lt|.le=>some .LtE|.gt=>some .Gt|.ge=>some .GtE|.eq=>some .Eq|.ne=>some .NotEq|.isin=>some .In|.r8=>some .NotIn
 | _=>none
noncomputable def Q0:O1→Option Str
 | .len=>some "len" | .all=>some "all" | .any=>some "any" | .sum=>some "sum" | .list=>some "list"
 | _=>none
noncomputable def rg:Tg→Expr→Option (List (Str×Nat))
 | .nm i,.Name y _=>some [(y,i)]
 | .tp [i,j],.Tuple [.Name y _,.Name z _] _ _=>some [(y,i),(z,j)]
 | _,_=>none
noncomputable def Q1 (N:List Str) (sc:Scope) (l:List (Str×Nat)):Bool:=l.all fun p=>decide (N[p.2]?=some p.1)&&Jw sc p.1
mutual
noncomputable def jG:E→Bool
 | .ite _ _ _=>false
 | .not a=>jG a
 | .and l=>tY l
 | .or l=>tY l
 | _=>true
noncomputable def tY:Es→Bool
 | .nil=>true
 | .cons a r=>jG a&&tY r
end
noncomputable def isTup:Expr→Bool
 | .Tuple ..=>true
 | _=>false
mutual
noncomputable def bN (N:List Str) (sc:Scope):E→Expr→Bool
 | .var i,x=>yB x fun n=>decide (N[i]?=some n)&&Lj sc n&&sR n
 | .int z,x=>rb x fun c=>decide (c=.int z)
 | .bl z,x=>rb x fun c=>decide (c=.bool z)
 | .gH,x=>rb x fun c=>decide (c=.none)
 | .gl y _,x=>yB x fun n=>decide (n=y)&&pY sc n&&sR n
 | .op o a b,x=>match Lk o with
  | some op=>HX x fun xa Q2 xb=>decide (Q2=op)&&bN N sc a xa&&bN N sc b xb
  | none=>match Ll o with
   | some op=>HY x fun xa Q2 xb=>decide (Q2=op)&&bN N sc a xa&&bN N sc b xb
   | none=>false
 | .un o a,x=>match Q0 o with
  | some f=>jO x fun f' l=>decide (f'=f)&&pY sc f&&(match l with|[xa]=>bN N sc a xa|_=>false)
  | none=>match o with
   | .neg=>Jv x fun op xa=>decide (op=.USub)&&bN N sc a xa
   | .rev=>jO x fun f' l=>decide (f' = "list")&&pY sc "list" && pY sc "reversed" && (match l with|[y]=>jO y fun f2 l2=>decide (f2 = "reversed")&&(match l2 with|[xa]=>bN N sc a xa|_=>false)|_=>false)
   | _=>false
 | .not a,x=>Jv x fun op xa=>decide (op=.Not)&&bN N sc a xa
 | .and l,x=>yC x fun op xs=>decide (op=.And)&&decide (0 < l.len)&&eN N sc l xs
 | .or l,x=>yC x fun op xs=>decide (op=.Or)&&decide (0 < l.len)&&eN N sc l xs
 | .ite c a b,x=>N3 x fun xc xa xb=>jG c&&bN N sc c xc&&bN N sc a xa&&bN N sc b xb
 | .fld a f,x=>CG x fun xa f'=>decide (f'=f)&&based xa&&bN N sc a xa
 | .call f _ l,x=>jO x fun f' xs=>decide (f'=f)&&pY sc f&&sR f&&decide (0 < l.len)&&eN N sc l xs
 | .lst l,x=>CI x fun xs=>decide (l.len≤1000)&&eN N sc l xs
 | .tup l,x=>xF x fun xs=>decide (l.len≤1000)&&eN N sc l xs
 | .ix a b,x=>BN x fun xa xb=>bN N sc a xa&&bN N sc b xb
 | .sl a lo hi,x=>BN x fun xa xb=>bN N sc a xa&&xG xb fun l h st=>st.isNone&&Jx N sc lo l&&Jx N sc hi h
 | .step a lo st,x=>BN x fun xa xb=>bN N sc a xa&&xG xb fun l h s=>h.isNone&&(match l with|some xl=>bN N sc lo xl|none=>false)&&(match s with|some xs=>bN N sc st xs|none=>false)
 | .cnt a b,x=>CH x fun xa m l=>decide (m = "count")&&based xa&&bN N sc a xa&&(match l with|[xb]=>bN N sc b xb|_=>false)
 | .comp t it c e,x=>Gv x fun xe xt xi xl scope=>match rg t xt with
  | some own=>Qz N sc scope own&&Q1 N scope own&&decide (own.map (·.2)=t.slots)&&rO N sc it xi (isTup xt)&&Jy N (Qw scope sc) c xl&&bN N (Qw scope sc) e xe
  | none=>false
noncomputable def eN (N:List Str) (sc:Scope):Es→List Expr→Bool
 | .nil,[]=>true
 | .cons a r,x::xs=>bN N sc a x&&eN N sc r xs
 | _,_=>false
noncomputable def Jx (N:List Str) (sc:Scope):Oe→Option Expr→Bool
 | .no,none=>true
 | .yes a,some x=>bN N sc a x
 | _,_=>false
noncomputable def Jy (N:List Str) (sc:Scope):Oe→List Expr→Bool
 | .no,[]=>true
 | .yes a,[x]=>jG a&&bN N sc a x
 | _,_=>false
noncomputable def rO (N:List Str) (sc:Scope):It→Expr→Bool→Bool
 | .lst a,x,_=>bN N sc a x
 | .pW a,x,_=>jO x fun f l=>decide (f = "range")&&pY sc f&&(match l with|[xa]=>bN N sc a xa|_=>false)
 | .En a b,x,_=>jO x fun f l=>decide (f = "range")&&pY sc f&&(match l with|[xa,xb]=>bN N sc a xa&&bN N sc b xb|_=>false)
 | .enum a,x,k=>jO x fun f l=>decide (f = "enumerate")&&pY sc f&&k&&(match l with|[xa]=>bN N sc a xa|_=>false)
 | .zip a b,x,k=>jO x fun f l=>decide (f = "zip")&&pY sc f&&k&&(match l with|[xa,xb]=>bN N sc a xa&&bN N sc b xb|_=>false)
 | .rev a,x,_=>jO x fun f l=>decide (f = "reversed")&&pY sc f&&(match l with|[xa]=>bN N sc a xa|_=>false)
end
mutual
noncomputable def dz (c:Cc):E→Prop
 | .gl x d=>k7 c.K c.mg x d
 | .op _ a b=>dz c a∧dz c b
 | .un _ a=>dz c a
 | .not a=>dz c a
 | .and l=>cD c l
 | .or l=>cD c l
 | .ite a b d=>dz c a∧dz c b∧dz c d
 | .fld a _=>dz c a
 | .call x g l=>fY c x g∧cD c l
 | .lst l=>cD c l
 | .tup l=>cD c l
 | .ix a b=>dz c a∧dz c b
 | .sl a lo hi=>dz c a∧iA c lo∧iA c hi
 | .step a b d=>dz c a∧dz c b∧dz c d
 | .cnt a b=>dz c a∧dz c b
 | .comp _ it k e=>il c it∧iA c k∧dz c e
 | .var _=>True
 | .int _=>True
 | .bl _=>True
 | .gH=>True
noncomputable def cD (c:Cc):Es→Prop
 | .nil=>True
 | .cons a r=>dz c a∧cD c r
noncomputable def iA (c:Cc):Oe→Prop
 | .no=>True
 | .yes a=>dz c a
noncomputable def il (c:Cc):It→Prop
 | .lst a=>dz c a
 | .pW a=>dz c a
 | .En a b=>dz c a∧dz c b
 | .enum a=>dz c a
 | .zip a b=>dz c a∧dz c b
 | .rev a=>dz c a
end
structure Vn (mg:Str→Option Value):Prop where
 len:mg "len" = none
 range:mg "range" = none
 list:mg "list" = none
 reversed:mg "reversed" = none
 enumerate:mg "enumerate" = none
 zip:mg "zip" = none
 all:mg "all" = none
 any:mg "any" = none
 sum:mg "sum" = none
structure Good (X:Cx) (k:Nat):Prop where
 room:kb k X.A
 calm:X.calm=true
 nd:X.N.Nodup
 blt:Vn X.mg
theorem CJ {sc:Scope} {x:Str} (h:Lj sc x=true):OM sc x:=by
 unfold Lj at h
 split at h<;>first|exact .inl (by assumption)|exact .inr (.inl (by assumption))|exact .inr (.inr (by assumption))|cases h
theorem xH {sc:Scope} {x:Str} (h:Jw sc x=true):Loc sc x:=by
 unfold Jw at h
 split at h<;>first|exact .inl (by assumption)|exact .inr (by assumption)|cases h
theorem gv {X:Cx} {x:Str} (h:pY X.env.scope x=true):Gl X x:=by
 unfold pY at h
 split at h
 ·assumption
 ·cases h
theorem jC {x:Str} (h:sR x=true):(x == ("__debug__" : Str))=false∧(x == ("__classdict__" : Str))=false:=by
 unfold sR at h
 rw [aj,fA,fA] at h
 exact h
theorem Good.rM {X:Cx} {k:Nat} (g:Good X k) (s:Shared) (H:Hp) (scope:Scope) (cl:List (Str×Addr)) (C:Addr) (fp:List Addr):Good (X.rM s H scope (compEnvC scope cl C X.env) fp) k :=
 ⟨g.room,g.calm,g.nd,g.blt⟩
theorem c7 {N:List Str} {sc:Scope}:∀{e:E} {x:Expr},bN N sc e x=true→plain x=true
 | .var _,_,h=>by unfold bN at h;obtain ⟨_,_,rfl,_⟩:=ko h;rfl
 | .int _,_,h=>by unfold bN at h;obtain ⟨_,_,_,rfl,_⟩:=f_ h;rfl
 | .bl _,_,h=>by unfold bN at h;obtain ⟨_,_,_,rfl,_⟩:=f_ h;rfl
 | .gH,_,h=>by unfold bN at h;obtain ⟨_,_,_,rfl,_⟩:=f_ h;rfl
 | .gl _ _,_,h=>by unfold bN at h;obtain ⟨_,_,rfl,_⟩:=ko h;rfl
 | .op o _ _,_,h=>by
  unfold bN at h
  split at h
  ·obtain ⟨_,_,_,_,rfl,_⟩:=u4 h;rfl
  ·split at h
   ·obtain ⟨_,_,_,_,rfl,_⟩:=u5 h;rfl
   ·cases h
 | .un o _,_,h=>by
  unfold bN at h
  split at h
  ·obtain ⟨_,_,_,_,rfl,_⟩:=cJ h;rfl
  ·split at h
   ·obtain ⟨_,_,_,rfl,_⟩:=oC h;rfl
   ·obtain ⟨_,_,_,_,rfl,_⟩:=cJ h;rfl
   ·cases h
 | .not _,_,h=>by unfold bN at h;obtain ⟨_,_,_,rfl,_⟩:=oC h;rfl
 | .and _,_,h=>by unfold bN at h;obtain ⟨_,_,_,rfl,_⟩:=kq h;rfl
 | .or _,_,h=>by unfold bN at h;obtain ⟨_,_,_,rfl,_⟩:=kq h;rfl
 | .ite _ _ _,_,h=>by unfold bN at h;obtain ⟨_,_,_,_,rfl,_⟩:=Ey h;rfl
 | .fld _ _,_,h=>by unfold bN at h;obtain ⟨_,_,_,rfl,_⟩:=sP h;rfl
 | .call _ _ _,_,h=>by unfold bN at h;obtain ⟨_,_,_,_,rfl,_⟩:=cJ h;rfl
 | .lst _,_,h=>by unfold bN at h;obtain ⟨_,_,rfl,_⟩:=mw h;rfl
 | .tup _,_,h=>by unfold bN at h;obtain ⟨_,_,_,rfl,_⟩:=qs h;rfl
 | .ix _ _,_,h=>by unfold bN at h;obtain ⟨_,_,_,rfl,_⟩:=iT h;rfl
 | .sl _ _ _,_,h=>by unfold bN at h;obtain ⟨_,_,_,rfl,_⟩:=iT h;rfl
 | .step _ _ _,_,h=>by unfold bN at h;obtain ⟨_,_,_,rfl,_⟩:=iT h;rfl
 | .cnt _ _,_,h=>by unfold bN at h;obtain ⟨_,_,_,_,_,rfl,_⟩:=sQ h;rfl
 | .comp _ _ _ _,_,h=>by unfold bN at h;obtain ⟨_,_,_,_,_,_,rfl,_⟩:=oU h;rfl
theorem gf {N:List Str} {sc:Scope}:∀{l:Es} {xs:List Expr},eN N sc l xs=true→xs.all plain=true∧xs.length=l.len
 | .nil,[],_=>⟨rfl,rfl⟩
 | .cons a r,x::xs,h=>by
  unfold eN at h
  rw [aj] at h
  obtain ⟨h1,h2⟩:=gf h.2
  exact ⟨by rw [dk,c7 h.1,h1];rfl,by simp [Es.len,h2]⟩
 | .nil,_::_,h=>by unfold eN at h;cases h
 | .cons _ _,[],h=>by unfold eN at h;cases h
theorem qt:∀{l:Es} {ρ:eM} {ds:List D},kj l ρ=some ds→ds.length=l.len
 | .nil,_,_,h=>by unfold kj at h;cases h;rfl
 | .cons a r,ρ,ds,h=>by
  unfold kj at h
  obtain ⟨x,_,h⟩:=ae.mp h
  obtain ⟨xs,e,h⟩:=ae.mp h
  cases h
  simp [Es.len,qt e]
theorem Gw {t:Tg} {x:Expr} {own:List (Str×Nat)} (h:rg t x=some own):∀l,t=.tp l→l.length=2:=by
 intro l e
 subst e
 unfold rg at h
 split at h
 ·rename_i q;cases q
 ·rename_i q;cases q;rfl
 ·cases h
theorem Gx {X:Cx} {t:Tg} {x:Expr} {own:List (Str×Nat)} (hc:X.calm=true) (hN:X.N.Nodup) (h:rg t x=some own) (hi:∀p∈own,X.N[p.2]?=some p.1) (hl:∀p∈own,Loc X.env.scope p.1∧(X.fn p.1=true∨X.env.scope.names.lookup p.1=some .local)):PG X x (CF X.K t):=by
 unfold rg at h
 split at h
 ·cases h
  have h1:=hi _ (b3.mpr rfl)
  have h2:=hl _ (b3.mpr rfl)
  exact xw hN h1 h2.1 h2.2
 ·cases h
  rename_i i j y p z q _ _
  have h1:=hi (y,i) (by simp)
  have h2:=hl (y,i) (by simp)
  have h3:=hi (z,j) (by simp)
  have h4:=hl (z,j) (by simp)
  exact P5 hc (DZ (xw hN h1 h2.1 h2.2) (DZ (xw hN h3 h4.1 h4.2) Nm))
 ·cases h
theorem rh {N:List Str} {sc:Scope} {l:List (Str×Nat)} (h:Q1 N sc l=true):∀p∈l,N[p.2]?=some p.1∧Loc sc p.1:=fun p hp=>by
 have:=aZ.mp h p hp
 rw [aj,decide_eq_true_eq] at this
 exact ⟨this.1,xH this.2⟩
theorem HZ {X:Cx} {s:Shared} {H:Hp} {scope:Scope} {cl:List (Str×Addr)} {C:Addr} {fp:List Addr} {x:Str} (h:Loc scope x) :
  Loc (X.rM s H scope (compEnvC scope cl C X.env) fp).env.scope x∧((X.rM s H scope (compEnvC scope cl C X.env) fp).fn x=true∨(X.rM s H scope (compEnvC scope cl C X.env) fp).env.scope.names.lookup x=some .local):=by
 rcases h with h|h
 ·have q:=ki (sc:=X.env.scope) (k:=.local) (by decide) h
  exact ⟨.inl q,.inr q⟩
 ·have q:=ki (sc:=X.env.scope) (k:=.cell) (by decide) h
  refine ⟨.inr q,.inl ?_⟩
  show (scope.names.lookup x == some .cell)=true
  rw [h];rfl
theorem Q3 {X:Cx} {o:O2} {op:Operator} (h:Lk o=some op):kG X (binaryOp op) (RD X.K (i9 o)):=by
 cases o<;>simp only [Lk,reduceCtorEq,bC.injEq] at h<;>subst h
 ·exact Tv
 ·exact Tw
 ·exact Tz
 ·exact QM
 ·exact TB
 ·exact TC
 ·exact TF
 ·exact QN
theorem Lm {X:Cx} {o:O2} {op:CmpOp} (hu:X.A.units+64 < cLine) (h:Ll o=some op):kG X (compareOp op) (RD X.K (i9 o)):=by
 cases o<;>simp only [Ll,reduceCtorEq,bC.injEq] at h<;>subst h
 ·exact W7
 ·exact W8
 ·exact W9
 ·exact W_
 ·exact Xd hu
 ·exact Xe hu
 ·exact Xf
 ·exact NZ
theorem Xo {X:Cx} {o:O1} {f:Str} {a:Expr} {p pos:Pos} {ea:eM→Option D} {k:Nat} (G:Good X k) (h:Q0 o=some f) (hg:Gl X f) (ha:PE X a (tM X.K ea)) (hp:plain a=true):PE X (.Call (.Name f p) [a] [] pos) (tM X.K fun ρ=>(ea ρ).bind fun x=>vU o x):=by
 cases o<;>simp only [Q0,reduceCtorEq,bC.injEq] at h<;>subst h
 ·exact TN hg G.blt.len ha hp
 ·exact TQ G.calm hg G.blt.all ha hp
 ·exact TR G.calm hg G.blt.any ha hp
 ·exact TU G.calm hg G.blt.sum ha hp
 ·exact QQ hg G.blt.list ha hp
end Mi
namespace Mi
open PySem PySem.Spec PyProof.Rows L2
section
variable {X:Cx} {x:Expr}
theorem gK {f g:eM→Option D} (h:PE X x (tM X.K f)) (e:∀ρ,g ρ=f ρ):PE X x (tM X.K g):=by
 have:g=f:=funext e
 rw [this];exact h
theorem H0 {f g:eM→Option D} (h:PT X x (tV X.K fun ρ=>(f ρ).bind fU)) (e:∀ρ,g ρ=f ρ):PT X x (tV X.K fun ρ=>(g ρ).bind fU):=by
 have:g=f:=funext e
 rw [this];exact h
theorem H_ {f g:eM→Option D} (h:PW X x (tV X.K fun ρ=>(f ρ).bind fU)) (e:∀ρ,g ρ=f ρ):PW X x (tV X.K fun ρ=>(g ρ).bind fU):=by
 have:g=f:=funext e
 rw [this];exact h
theorem Pb {xs:List Expr} {f g:eM→Option (List D)} (h:PA X xs (HP X.K f)) (e:∀ρ,g ρ=f ρ):PA X xs (HP X.K g):=by
 have:g=f:=funext e
 rw [this];exact h
theorem BO {tg:Expr} {f g:eM→Option (List D)} (h:PI X tg x (HQ X.K f)) (e:∀ρ,g ρ=f ρ):PI X tg x (HQ X.K g):=by
 have:g=f:=funext e
 rw [this];exact h
theorem Pc {o:Option Expr} {f g:eM→Option (Option Int)} (h:PO X o (QH X.K f)) (e:∀ρ,g ρ=f ρ):PO X o (QH X.K g):=by
 have:g=f:=funext e
 rw [this];exact h
theorem oV {N:List Str} {sc:Scope} {k:Bool}:∀{it:It} {x:Expr},rO N sc it x k=true→plain x=true
 | .lst _,_,h=>by unfold rO at h;exact c7 h
 | .pW _,_,h=>by unfold rO at h;obtain ⟨_,_,_,_,rfl,_⟩:=cJ h;rfl
 | .En _ _,_,h=>by unfold rO at h;obtain ⟨_,_,_,_,rfl,_⟩:=cJ h;rfl
 | .enum _,_,h=>by unfold rO at h;obtain ⟨_,_,_,_,rfl,_⟩:=cJ h;rfl
 | .zip _ _,_,h=>by unfold rO at h;obtain ⟨_,_,_,_,rfl,_⟩:=cJ h;rfl
 | .rev _,_,h=>by unfold rO at h;obtain ⟨_,_,_,_,rfl,_⟩:=cJ h;rfl
theorem BP {x:Expr} (h:isTup x=true):∃l k p,x=.Tuple l k p:=by
 unfold isTup at h
 split at h
 ·exact ⟨_,_,_,rfl⟩
 ·cases h
theorem oW {f:Expr→Bool} {l:List Expr} (h:(match l with|[xa]=>f xa|_=>false)=true):∃xa,l=[xa]∧f xa=true:=by
 split at h
 ·exact ⟨_,rfl,h⟩
 ·cases h
theorem Ia {f:Expr→Bool} {l:Option Expr} (h:(match l with|some x=>f x|none=>false)=true):∃x,l=some x∧f x=true:=by
 split at h
 ·exact ⟨_,rfl,h⟩
 ·cases h
theorem Ib {f:Expr→Expr→Bool} {l:List Expr} (h:(match l with|[xa,xb]=>f xa xb|_=>false)=true):∃xa xb,l=[xa,xb]∧f xa xb=true:=by
 split at h
 ·exact ⟨_,_,rfl,h⟩
 ·cases h
end
mutual
theorem sE {k:Nat}:∀(e:E) ⦃X:Cx⦄ ⦃x:Expr⦄,Good X k→dz (Cx.cc X k) e→bN X.N X.env.scope e x=true→PE X x (tM X.K (bH e))
 | .var i=>fun X x G ok h=>by
  unfold bN at h
  have hi:=ko h
  clear h
  obtain ⟨n,p,rfl,h⟩:=hi
  simp only [aj,decide_eq_true_eq] at h
  exact gK (Tj h.1.1 (CJ h.1.2) (jC h.2).1 (jC h.2).2) fun ρ=>by simp only [bH]
 | .int z=>fun X x G ok h=>by
  unfold bN at h
  have hi:=f_ h
  clear h
  obtain ⟨n,j,p,rfl,h⟩:=hi
  obtain rfl:=of_decide_eq_true h
  exact gK To fun ρ=>by simp only [bH]
 | .bl z=>fun X x G ok h=>by
  unfold bN at h
  have hi:=f_ h
  clear h
  obtain ⟨n,j,p,rfl,h⟩:=hi
  obtain rfl:=of_decide_eq_true h
  exact gK W2 fun ρ=>by simp only [bH]
 | .gH=>fun X x G ok h=>by
  unfold bN at h
  have hi:=f_ h
  clear h
  obtain ⟨n,j,p,rfl,h⟩:=hi
  obtain rfl:=of_decide_eq_true h
  exact gK Tp fun ρ=>by simp only [bH]
 | .gl y d=>fun X x G ok h=>by
  unfold bN at h
  have hi:=ko h
  clear h
  obtain ⟨n,p,rfl,h⟩:=hi
  simp only [aj,decide_eq_true_eq] at h
  obtain ⟨⟨rfl,h1⟩,h2⟩:=h
  unfold dz at ok
  exact gK (W3 (gv h1) ok (jC h2).1) fun ρ=>by simp only [bH]
 | .op o a b=>fun X x G ok h=>by
  unfold bN at h
  unfold dz at ok
  split at h
  ·rename_i op T7
   have hi:=u4 h
   clear h
   obtain ⟨xa,Q2,xb,p,rfl,h⟩:=hi
   simp only [aj,decide_eq_true_eq] at h
   obtain ⟨⟨rfl,h1⟩,h2⟩:=h
   exact gK (W4 (Q3 T7) (sE a G ok.1 h1) (sE b G ok.2 h2)) fun ρ=>by simp only [bH]
  ·split at h
   ·rename_i op T7
    have hi:=u5 h
    clear h
    obtain ⟨xa,Q2,xb,p,rfl,h⟩:=hi
    simp only [aj,decide_eq_true_eq] at h
    obtain ⟨⟨rfl,h1⟩,h2⟩:=h
    exact gK (Tq (Lm G.room.units T7) (sE a G ok.1 h1) (sE b G ok.2 h2) (yt _ (c7 h2))) fun ρ=>by simp only [bH]
   ·cases h
 | .un o a=>fun X x G ok h=>by
  unfold bN at h
  unfold dz at ok
  split at h
  ·rename_i f hf
   have hi:=cJ h
   clear h
   obtain ⟨f',p,l,q,rfl,h⟩:=hi
   simp only [aj,decide_eq_true_eq] at h
   obtain ⟨⟨rfl,h1⟩,h2⟩:=h
   have hi:=oW h2
   clear h2
   obtain ⟨xa,rfl,h2⟩:=hi
   exact gK (Xo G hf (gv h1) (sE a G ok h2) (c7 h2)) fun ρ=>by simp only [bH]
  ·split at h
   ·have hi:=oC h
    clear h
    obtain ⟨op,xa,p,rfl,h⟩:=hi
    simp only [aj,decide_eq_true_eq] at h
    obtain ⟨rfl,h⟩:=h
    exact gK (TV (sE a G ok h)) fun ρ=>by simp only [bH]
   ·have hi:=cJ h
    clear h
    obtain ⟨f',p,l,q,rfl,h⟩:=hi
    simp only [aj,decide_eq_true_eq] at h
    obtain ⟨⟨⟨rfl,h1⟩,h2⟩,h3⟩:=h
    have hi:=oW h3
    clear h3
    obtain ⟨y,rfl,h3⟩:=hi
    have hi:=cJ h3
    clear h3
    obtain ⟨f2,p2,l2,q2,rfl,h3⟩:=hi
    simp only [aj,decide_eq_true_eq] at h3
    obtain ⟨rfl,h3⟩:=h3
    have hi:=oW h3
    clear h3
    obtain ⟨xa,rfl,h3⟩:=hi
    exact gK (T6 (G.calm) (gv h1) G.blt.list (gv h2) G.blt.reversed (sE a G ok h3) (c7 h3)) fun ρ=>by simp only [bH]
   ·cases h
 | .not a=>fun X x G ok h=>by
  unfold bN at h
  unfold dz at ok
  have hi:=oC h
  clear h
  obtain ⟨op,xa,p,rfl,h⟩:=hi
  simp only [aj,decide_eq_true_eq] at h
  obtain ⟨rfl,h⟩:=h
  exact gK (Tr (sE a G ok h)) fun ρ=>by simp only [bH]
 | .and l=>fun X x G ok h=>by
  unfold bN at h
  unfold dz at ok
  have hi:=kq h
  clear h
  obtain ⟨op,xs,p,rfl,h⟩:=hi
  simp only [aj,decide_eq_true_eq] at h
  obtain ⟨⟨rfl,h1⟩,h2⟩:=h
  exact gK (T8 l G ok h1 h2) fun ρ=>by simp only [bH]
 | .or l=>fun X x G ok h=>by
  unfold bN at h
  unfold dz at ok
  have hi:=kq h
  clear h
  obtain ⟨op,xs,p,rfl,h⟩:=hi
  simp only [aj,decide_eq_true_eq] at h
  obtain ⟨⟨rfl,h1⟩,h2⟩:=h
  exact gK (Yu l G ok h1 h2) fun ρ=>by simp only [bH]
 | .ite c a b=>fun X x G ok h=>by
  unfold bN at h
  unfold dz at ok
  have hi:=Ey h
  clear h
  obtain ⟨xc,xa,xb,p,rfl,h⟩:=hi
  simp only [aj] at h
  exact gK (Ts (sT c G ok.1 h.1.1.2 h.1.1.1) (sE a G ok.2.1 h.1.2) (sE b G ok.2.2 h.2)) fun ρ=>by simp only [bH]<;>rfl
 | .fld a f=>fun X x G ok h=>by
  unfold bN at h
  unfold dz at ok
  have hi:=sP h
  clear h
  obtain ⟨xa,f',p,rfl,h⟩:=hi
  simp only [aj,decide_eq_true_eq] at h
  obtain ⟨⟨rfl,h1⟩,h2⟩:=h
  exact gK (TJ (sE a G ok h2) h1) fun ρ=>by simp only [bH]
 | .call f g l=>fun X x G ok h=>by
  unfold bN at h
  unfold dz at ok
  have hi:=cJ h
  clear h
  obtain ⟨f',p,xs,q,rfl,h⟩:=hi
  simp only [aj,decide_eq_true_eq] at h
  obtain ⟨⟨⟨⟨rfl,h1⟩,h2⟩,h3⟩,h4⟩:=h
  obtain ⟨hp,hl⟩:=gf h4
  have k6:xs≠[]:=fun z=>by rw [z] at hl;simp at hl;omega
  exact gK (QO ok.1 G.room (gv h1) (R4 l G ok.2 h4) hp k6 (jC h2).1) fun ρ=>by simp only [bH]
 | .lst l=>fun X x G ok h=>by
  unfold bN at h
  unfold dz at ok
  have hi:=mw h
  clear h
  obtain ⟨xs,p,rfl,h⟩:=hi
  simp only [aj,decide_eq_true_eq] at h
  have hz:(1000:Nat)≤sizeLine:=by decide
  exact gK (TK (R4 l G ok h.2) fun ρ ds e=>by rw [qt e];omega) fun ρ=>by simp only [bH]
 | .tup l=>fun X x G ok h=>by
  unfold bN at h
  unfold dz at ok
  have hi:=qs h
  clear h
  obtain ⟨xs,j,p,rfl,h⟩:=hi
  simp only [aj,decide_eq_true_eq] at h
  have hz:(1000:Nat)≤sizeLine:=by decide
  exact gK (TM (R4 l G ok h.2) fun ρ ds e=>by rw [qt e];omega) fun ρ=>by simp only [bH]
 | .ix a b=>fun X x G ok h=>by
  unfold bN at h
  unfold dz at ok
  have hi:=iT h
  clear h
  obtain ⟨xa,xb,p,rfl,h⟩:=hi
  simp only [aj] at h
  exact gK (Xg (sE a G ok.1 h.1) (sE b G ok.2 h.2) (c7 h.2)) fun ρ=>by simp only [bH]
 | .sl a lo hi=>fun X x G ok h=>by
  unfold bN at h
  unfold dz at ok
  have hi:=iT h
  clear h
  obtain ⟨xa,xb,p,rfl,h⟩:=hi
  simp only [aj] at h
  obtain ⟨h1,h2⟩:=h
  have hi:=vX h2
  clear h2
  obtain ⟨l,u,st,q,rfl,h2⟩:=hi
  simp only [aj,DK] at h2
  obtain ⟨⟨rfl,h3⟩,h4⟩:=h2
  exact gK (Xi (sE a G ok.1 h1) (sO lo G ok.2.1 h3) (sO hi G ok.2.2 h4)) fun ρ=>by simp only [bH]
 | .step a lo st=>fun X x G ok h=>by
  unfold bN at h
  unfold dz at ok
  have hi:=iT h
  clear h
  obtain ⟨xa,xb,p,rfl,h⟩:=hi
  simp only [aj] at h
  obtain ⟨h1,h2⟩:=h
  have hi:=vX h2
  clear h2
  obtain ⟨l,u,s,q,rfl,h2⟩:=hi
  simp only [aj,DK] at h2
  obtain ⟨⟨rfl,h3⟩,h4⟩:=h2
  have hi:=Ia h3
  clear h3
  obtain ⟨l,rfl,h3⟩:=hi
  have hi:=Ia h4
  clear h4
  obtain ⟨s,rfl,h4⟩:=hi
  exact gK (QZ (sE a G ok.1 h1) (sE lo G ok.2.1 h3) (sE st G ok.2.2 h4)) fun ρ=>by simp only [bH]
 | .cnt a b=>fun X x G ok h=>by
  unfold bN at h
  unfold dz at ok
  have hi:=sQ h
  clear h
  obtain ⟨o,m,p,l,q,rfl,hl,h⟩:=hi
  simp only [aj,decide_eq_true_eq] at h
  obtain ⟨⟨⟨rfl,h1⟩,h2⟩,h3⟩:=h
  have hi:=oW h3
  clear h3
  obtain ⟨xb,rfl,h3⟩:=hi
  exact gK (T5 (sE a G ok.1 h2) h1 (sE b G ok.2 h3) (c7 h3) hl) fun ρ=>by simp only [bH]
 | .comp t it c e=>fun X x G ok h=>by
  unfold bN at h
  unfold dz at ok
  have hi:=oU h
  clear h
  obtain ⟨xe,xt,xi,xl,scope,p,rfl,h⟩:=hi
  split at h
  ·rename_i own Ez
   simp only [aj,decide_eq_true_eq] at h
   obtain ⟨⟨⟨⟨⟨h1,h2⟩,h3⟩,h4⟩,h5⟩,h6⟩:=h
   have q:PE X (.ListComp xe [⟨xt,xi,xl,0⟩] scope p) (OX (HQ X.K (pX it)) (CF X.K t) (tV X.K (BE c)) (tM X.K (bH e)) (own.map (·.2))) :=
    OY G.calm G.nd (sI it G ok.1 h4) (yj h1)
     (fun s H C cl fp=>Gx (X:=X.rM s H scope (compEnvC scope cl C X.env) fp) G.calm G.nd Ez (fun p hp=>(rh h2 p hp).1) fun p hp=>HZ (rh h2 p hp).2)
     (fun s H C cl fp=>sC c (G.rM s H scope cl C fp) ok.2.1 h5)
     (fun s H C cl fp=>sE e (G.rM s H scope cl C fp) ok.2.2 h6) (oT (oV h4))
   rw [h3] at q
   exact fL q fun σ H Q hq=>O_ (Gw Ez) (by
    have e1:(fun ρ=>(pX it ρ).bind fun ds=>(i_ (BE c) (bH e) t (jB ρ t.slots) ds).bind fun l=>some (.lst l))=bH (.comp t it c e):=by
     funext ρ;simp only [bH]
    rw [e1];exact hq)
  ·cases h
theorem sT {k:Nat}:∀(e:E) ⦃X:Cx⦄ ⦃x:Expr⦄,Good X k→dz (Cx.cc X k) e→bN X.N X.env.scope e x=true→jG e=true→PT X x (tV X.K fun ρ=>(bH e ρ).bind fU)
 | .not a=>fun X x G ok h ht=>by
  unfold bN at h
  unfold dz at ok
  unfold jG at ht
  have hi:=oC h
  clear h
  obtain ⟨op,xa,p,rfl,h⟩:=hi
  simp only [aj,decide_eq_true_eq] at h
  obtain ⟨rfl,h⟩:=h
  exact H0 (QK (sT a G ok h ht)) fun ρ=>by simp only [bH]
 | .and l=>fun X x G ok h ht=>by
  unfold bN at h
  unfold dz at ok
  unfold jG at ht
  have hi:=kq h
  clear h
  obtain ⟨op,xs,p,rfl,h⟩:=hi
  simp only [aj,decide_eq_true_eq] at h
  obtain ⟨⟨rfl,h1⟩,h2⟩:=h
  exact H0 (Pd l G ok h1 h2 ht).pt fun ρ=>by simp only [bH]
 | .or l=>fun X x G ok h ht=>by
  unfold bN at h
  unfold dz at ok
  unfold jG at ht
  have hi:=kq h
  clear h
  obtain ⟨op,xs,p,rfl,h⟩:=hi
  simp only [aj,decide_eq_true_eq] at h
  obtain ⟨⟨rfl,h1⟩,h2⟩:=h
  exact H0 (T9 l G ok h1 h2 ht).pt fun ρ=>by simp only [bH]
 | .op o a b=>fun X x G ok h _=>by
  have hv:=sE (.op o a b) G ok h
  unfold bN at h
  unfold dz at ok
  split at h
  ·have hi:=u4 h
   clear h
   obtain ⟨xa,Q2,xb,p,rfl,h⟩:=hi
   exact ie hv fun _=>rfl
  ·split at h
   ·rename_i op T7
    have hi:=u5 h
    clear h
    obtain ⟨xa,Q2,xb,p,rfl,h⟩:=hi
    simp only [aj,decide_eq_true_eq] at h
    obtain ⟨⟨rfl,h1⟩,h2⟩:=h
    exact H0 (QJ (Lm G.room.units T7) (sE a G ok.1 h1) (sE b G ok.2 h2) (yt _ (c7 h2))) fun ρ=>by simp only [bH]
   ·cases h
 | .var i=>fun X x G ok h _=>by
  have hv:=sE (.var i) G ok h
  unfold bN at h
  have hi:=ko h
  clear h
  obtain ⟨n,p,rfl,h⟩:=hi
  exact ie hv fun _=>rfl
 | .call f g l=>fun X x G ok h _=>by
  have hv:=sE (.call f g l) G ok h
  unfold bN at h
  have hi:=cJ h
  clear h
  obtain ⟨f',p,xs,q,rfl,h⟩:=hi
  exact ie hv fun _=>rfl
 | .fld a f=>fun X x G ok h _=>by
  have hv:=sE (.fld a f) G ok h
  unfold bN at h
  have hi:=sP h
  clear h
  obtain ⟨xa,f',p,rfl,h⟩:=hi
  exact ie hv fun _=>rfl
 | .ix a b=>fun X x G ok h _=>by
  have hv:=sE (.ix a b) G ok h
  unfold bN at h
  have hi:=iT h
  clear h
  obtain ⟨xa,xb,p,rfl,h⟩:=hi
  exact ie hv fun _=>rfl
 | .un o a=>fun X x G ok h _=>by
  have hv:=sE (.un o a) G ok h
  unfold bN at h
  split at h
  ·have hi:=cJ h
   clear h
   obtain ⟨f',p,l,q,rfl,h⟩:=hi
   exact ie hv fun _=>rfl
  ·split at h
   ·have hi:=oC h
    clear h
    obtain ⟨op,xa,p,rfl,h⟩:=hi
    simp only [aj,decide_eq_true_eq] at h
    obtain ⟨rfl,h⟩:=h
    exact ie hv fun _=>rfl
   ·have hi:=cJ h
    clear h
    obtain ⟨f',p,l,q,rfl,h⟩:=hi
    exact ie hv fun _=>rfl
   ·cases h
 | .bl z=>fun X x G ok h _=>by
  have hv:=sE (.bl z) G ok h
  unfold bN at h
  have hi:=f_ h
  clear h
  obtain ⟨n,j,p,rfl,h⟩:=hi
  exact ie hv fun _=>rfl
 | .int z=>fun X x G ok h _=>by
  have hv:=sE (.int z) G ok h
  unfold bN at h
  have hi:=f_ h
  clear h
  obtain ⟨n,j,p,rfl,h⟩:=hi
  exact ie hv fun _=>rfl
 | .gH=>fun X x G ok h _=>by
  have hv:=sE .gH G ok h
  unfold bN at h
  have hi:=f_ h
  clear h
  obtain ⟨n,j,p,rfl,h⟩:=hi
  exact ie hv fun _=>rfl
 | .gl y d=>fun X x G ok h _=>by
  have hv:=sE (.gl y d) G ok h
  unfold bN at h
  have hi:=ko h
  clear h
  obtain ⟨n,p,rfl,h⟩:=hi
  exact ie hv fun _=>rfl
 | .lst l=>fun X x G ok h _=>by
  have hv:=sE (.lst l) G ok h
  unfold bN at h
  have hi:=mw h
  clear h
  obtain ⟨xs,p,rfl,h⟩:=hi
  exact ie hv fun _=>rfl
 | .tup l=>fun X x G ok h _=>by
  have hv:=sE (.tup l) G ok h
  unfold bN at h
  have hi:=qs h
  clear h
  obtain ⟨xs,j,p,rfl,h⟩:=hi
  exact ie hv fun _=>rfl
 | .sl a lo hi=>fun X x G ok h _=>by
  have hv:=sE (.sl a lo hi) G ok h
  unfold bN at h
  have hi:=iT h
  clear h
  obtain ⟨xa,xb,p,rfl,h⟩:=hi
  exact ie hv fun _=>rfl
 | .step a lo hi=>fun X x G ok h _=>by
  have hv:=sE (.step a lo hi) G ok h
  unfold bN at h
  have hi:=iT h
  clear h
  obtain ⟨xa,xb,p,rfl,h⟩:=hi
  exact ie hv fun _=>rfl
 | .cnt a b=>fun X x G ok h _=>by
  have hv:=sE (.cnt a b) G ok h
  unfold bN at h
  have hi:=sQ h
  clear h
  obtain ⟨o,m,p,l,q,rfl,hl,h⟩:=hi
  exact ie hv fun _=>rfl
 | .comp t it c e=>fun X x G ok h _=>by
  have hv:=sE (.comp t it c e) G ok h
  unfold bN at h
  have hi:=oU h
  clear h
  obtain ⟨xe,xt,xi,xl,scope,p,rfl,h⟩:=hi
  exact ie hv fun _=>rfl
 | .ite _ _ _=>fun X x G ok h ht=>by unfold jG at ht;cases ht
theorem R4 {k:Nat}:∀(l:Es) {xs:List Expr} ⦃X:Cx⦄,Good X k→cD (Cx.cc X k) l→eN X.N X.env.scope l xs=true→PA X xs (HP X.K (kj l))
 | .nil,[]=>fun X G ok h=>Pb qp fun ρ=>by simp only [kj]
 | .cons a r,x::xs=>fun X G ok h=>by
  unfold eN at h
  unfold cD at ok
  rw [aj] at h
  exact Pb (km (sE a G ok.1 h.1) (R4 r G ok.2 h.2) (c7 h.1)) fun ρ=>by simp only [kj]
 | .nil,_::_=>fun X G ok h=>by unfold eN at h;cases h
 | .cons _ _,[]=>fun X G ok h=>by unfold eN at h;cases h
theorem T8 {k:Nat}:∀(l:Es) {xs:List Expr} ⦃X:Cx⦄ ⦃pos:Pos⦄,Good X k→cD (Cx.cc X k) l→0 < l.len→eN X.N X.env.scope l xs=true→PE X (.BoolOp .And xs pos) (tM X.K (r9 l))
 | .nil,xs=>fun X pos G ok hl h=>by simp [Es.len] at hl
 | .cons a .nil,[]=>fun X pos G ok hl h=>by unfold eN at h;cases h
 | .cons a .nil,x::xs=>fun X pos G ok hl h=>by
  unfold eN at h
  unfold cD at ok
  rw [aj] at h
  have h2:=(gf h.2).2
  simp [Es.len] at h2
  subst h2
  exact gK (Km (sE a G ok.1 h.1)) fun ρ=>by simp only [r9]
 | .cons a (.cons b r),[]=>fun X pos G ok hl h=>by unfold eN at h;cases h
 | .cons a (.cons b r),x::xs=>fun X pos G ok hl h=>by
  unfold eN at h
  unfold cD at ok
  rw [aj] at h
  have h2:=(gf h.2).2
  cases xs with
  | nil=>simp [Es.len] at h2
  | cons y ys=>exact gK (Tt (sE a G ok.1 h.1) (T8 (.cons b r) G ok.2 (by simp [Es.len]) h.2)) fun ρ=>by simp only [r9]<;>rfl
theorem Yu {k:Nat}:∀(l:Es) {xs:List Expr} ⦃X:Cx⦄ ⦃pos:Pos⦄,Good X k→cD (Cx.cc X k) l→0 < l.len→eN X.N X.env.scope l xs=true→PE X (.BoolOp .Or xs pos) (tM X.K (Ak l))
 | .nil,xs=>fun X pos G ok hl h=>by simp [Es.len] at hl
 | .cons a .nil,[]=>fun X pos G ok hl h=>by unfold eN at h;cases h
 | .cons a .nil,x::xs=>fun X pos G ok hl h=>by
  unfold eN at h
  unfold cD at ok
  rw [aj] at h
  have h2:=(gf h.2).2
  simp [Es.len] at h2
  subst h2
  exact gK (Km (sE a G ok.1 h.1)) fun ρ=>by simp only [Ak]
 | .cons a (.cons b r),[]=>fun X pos G ok hl h=>by unfold eN at h;cases h
 | .cons a (.cons b r),x::xs=>fun X pos G ok hl h=>by
  unfold eN at h
  unfold cD at ok
  rw [aj] at h
  have h2:=(gf h.2).2
  cases xs with
  | nil=>simp [Es.len] at h2
  | cons y ys=>exact gK (W6 (sE a G ok.1 h.1) (Yu (.cons b r) G ok.2 (by simp [Es.len]) h.2)) fun ρ=>by simp only [Ak]<;>rfl
theorem Pd {k:Nat}:∀(l:Es) {xs:List Expr} ⦃X:Cx⦄ ⦃pos:Pos⦄,Good X k→cD (Cx.cc X k) l→0 < l.len→eN X.N X.env.scope l xs=true→tY l=true→PW X (.BoolOp .And xs pos) (tV X.K fun ρ=>(r9 l ρ).bind fU)
 | .nil,xs=>fun X pos G ok hl h ht=>by simp [Es.len] at hl
 | .cons a .nil,[]=>fun X pos G ok hl h ht=>by unfold eN at h;cases h
 | .cons a .nil,x::xs=>fun X pos G ok hl h ht=>by
  unfold eN at h
  unfold cD at ok
  unfold tY at ht
  rw [aj] at h ht
  have h2:=(gf h.2).2
  simp [Es.len] at h2
  subst h2
  exact H_ (Nj (sT a G ok.1 h.1 ht.1)) fun ρ=>by simp only [r9]
 | .cons a (.cons b r),[]=>fun X pos G ok hl h ht=>by unfold eN at h;cases h
 | .cons a (.cons b r),x::xs=>fun X pos G ok hl h ht=>by
  unfold eN at h
  unfold cD at ok
  unfold tY at ht
  rw [aj] at h ht
  have h2:=(gf h.2).2
  cases xs with
  | nil=>simp [Es.len] at h2
  | cons y ys=>exact H_ (QL (sT a G ok.1 h.1 ht.1) (Pd (.cons b r) G ok.2 (by simp [Es.len]) h.2 ht.2)) fun ρ=>by simp only [r9]<;>rfl
theorem T9 {k:Nat}:∀(l:Es) {xs:List Expr} ⦃X:Cx⦄ ⦃pos:Pos⦄,Good X k→cD (Cx.cc X k) l→0 < l.len→eN X.N X.env.scope l xs=true→tY l=true→PW X (.BoolOp .Or xs pos) (tV X.K fun ρ=>(Ak l ρ).bind fU)
 | .nil,xs=>fun X pos G ok hl h ht=>by simp [Es.len] at hl
 | .cons a .nil,[]=>fun X pos G ok hl h ht=>by unfold eN at h;cases h
 | .cons a .nil,x::xs=>fun X pos G ok hl h ht=>by
  unfold eN at h
  unfold cD at ok
  unfold tY at ht
  rw [aj] at h ht
  have h2:=(gf h.2).2
  simp [Es.len] at h2
  subst h2
  exact H_ (PV (sT a G ok.1 h.1 ht.1)) fun ρ=>by simp only [Ak]
 | .cons a (.cons b r),[]=>fun X pos G ok hl h ht=>by unfold eN at h;cases h
 | .cons a (.cons b r),x::xs=>fun X pos G ok hl h ht=>by
  unfold eN at h
  unfold cD at ok
  unfold tY at ht
  rw [aj] at h ht
  have h2:=(gf h.2).2
  cases xs with
  | nil=>simp [Es.len] at h2
  | cons y ys=>exact H_ (Tu (sT a G ok.1 h.1 ht.1) (T9 (.cons b r) G ok.2 (by simp [Es.len]) h.2 ht.2)) fun ρ=>by simp only [Ak]<;>rfl
theorem sO {k:Nat}:∀(o:Oe) {x:Option Expr} ⦃X:Cx⦄,Good X k→iA (Cx.cc X k) o→Jx X.N X.env.scope o x=true→PO X x (QH X.K (J8 o))
 | .no,none=>fun X G ok h=>Pc Xh fun ρ=>by simp only [J8]
 | .yes a,some x=>fun X G ok h=>by
  unfold Jx at h
  unfold iA at ok
  exact Pc (TX (sE a G ok h)) fun ρ=>by simp only [J8]
 | .no,some _=>fun X G ok h=>by unfold Jx at h;cases h
 | .yes _,none=>fun X G ok h=>by unfold Jx at h;cases h
theorem sC {k:Nat}:∀(o:Oe) {xs:List Expr} ⦃X:Cx⦄,Good X k→iA (Cx.cc X k) o→Jy X.N X.env.scope o xs=true→NH X xs (tV X.K (BE o))
 | .no,[]=>fun X G ok h=>NW NI fun σ H Q ⟨F,ρ,b,s,l,e,q⟩=>by
  simp only [BE] at e
  cases e
  exact q F H (.refl s)
 | .yes a,[x]=>fun X G ok h=>by
  unfold Jy at h
  unfold iA at ok
  rw [aj] at h
  have e1:BE (.yes a)=fun ρ=>(bH a ρ).bind fU:=by funext ρ;simp only [BE]
  rw [e1]
  exact NJ (sT a G ok h.2 h.1)
 | .no,_::_=>fun X G ok h=>by unfold Jy at h;cases h
 | .yes _,[]=>fun X G ok h=>by unfold Jy at h;cases h
 | .yes _,_::_::_=>fun X G ok h=>by unfold Jy at h;cases h
theorem sI {k:Nat}:∀(it:It) ⦃X:Cx⦄ ⦃tg x:Expr⦄,Good X k→il (Cx.cc X k) it→rO X.N X.env.scope it x (isTup tg)=true→PI X tg x (HQ X.K (pX it))
 | .lst a=>fun X tg x G ok h=>by
  unfold rO at h
  unfold il at ok
  exact BO (QT (sE a G ok h)) fun ρ=>by simp only [pX]
 | .pW a=>fun X tg x G ok h=>by
  unfold rO at h
  unfold il at ok
  have hi:=cJ h
  clear h
  obtain ⟨f,p,l,q,rfl,h⟩:=hi
  simp only [aj,decide_eq_true_eq] at h
  obtain ⟨⟨rfl,h1⟩,h2⟩:=h
  have hi:=oW h2
  clear h2
  obtain ⟨xa,rfl,h2⟩:=hi
  exact BO (TY (gv h1) G.blt.range (sE a G ok h2) (c7 h2)) fun ρ=>by simp only [pX]
 | .En a b=>fun X tg x G ok h=>by
  unfold rO at h
  unfold il at ok
  have hi:=cJ h
  clear h
  obtain ⟨f,p,l,q,rfl,h⟩:=hi
  simp only [aj,decide_eq_true_eq] at h
  obtain ⟨⟨rfl,h1⟩,h2⟩:=h
  have hi:=Ib (f:=fun xa xb=>bN X.N X.env.scope a xa&&bN X.N X.env.scope b xb) h2
  clear h2
  obtain ⟨xa,xb,rfl,h2⟩:=hi
  rw [aj] at h2
  exact BO (QU (gv h1) G.blt.range (sE a G ok.1 h2.1) (sE b G ok.2 h2.2) (c7 h2.1) (c7 h2.2)) fun ρ=>by simp only [pX]
 | .enum a=>fun X tg x G ok h=>by
  unfold rO at h
  unfold il at ok
  have hi:=cJ h
  clear h
  obtain ⟨f,p,l,q,rfl,h⟩:=hi
  simp only [aj,decide_eq_true_eq] at h
  obtain ⟨⟨⟨rfl,h1⟩,h0⟩,h2⟩:=h
  have hi:=oW h2
  clear h2
  obtain ⟨xa,rfl,h2⟩:=hi
  obtain ⟨_,_,_,rfl⟩:=BP h0
  exact BO (QV (gv h1) G.blt.enumerate (sE a G ok h2) (c7 h2)) fun ρ=>by simp only [pX]
 | .zip a b=>fun X tg x G ok h=>by
  unfold rO at h
  unfold il at ok
  have hi:=cJ h
  clear h
  obtain ⟨f,p,l,q,rfl,h⟩:=hi
  simp only [aj,decide_eq_true_eq] at h
  obtain ⟨⟨⟨rfl,h1⟩,h0⟩,h2⟩:=h
  have hi:=Ib (f:=fun xa xb=>bN X.N X.env.scope a xa&&bN X.N X.env.scope b xb) h2
  clear h2
  obtain ⟨xa,xb,rfl,h2⟩:=hi
  rw [aj] at h2
  obtain ⟨_,_,_,rfl⟩:=BP h0
  exact BO (TZ (gv h1) G.blt.zip (sE a G ok.1 h2.1) (sE b G ok.2 h2.2) (c7 h2.1) (c7 h2.2)) fun ρ=>by simp only [pX]
 | .rev a=>fun X tg x G ok h=>by
  unfold rO at h
  unfold il at ok
  have hi:=cJ h
  clear h
  obtain ⟨f,p,l,q,rfl,h⟩:=hi
  simp only [aj,decide_eq_true_eq] at h
  obtain ⟨⟨rfl,h1⟩,h2⟩:=h
  have hi:=oW h2
  clear h2
  obtain ⟨xa,rfl,h2⟩:=hi
  exact BO (T1 (gv h1) G.blt.reversed (sE a G ok h2) (c7 h2)) fun ρ=>by simp only [pX]
end
end Mi
namespace Mi
open PySem PySem.Spec PyProof.Rows L2
theorem eO:∀(s:List Sl) (i j:Nat) (y:Sl),gI (sset s i y) j=if i=j∧i < s.length then y else gI s j
 | [],i,j,y=>by simp [sset,gI]
 | x::r,0,0,y=>by simp [sset,gI]
 | x::r,0,j+1,y=>by simp [sset,gI]
 | x::r,i+1,0,y=>by simp [sset,gI]
 | x::r,i+1,j+1,y=>by simp [sset,gI,eO r i j y]
theorem oE:∀(s:List Sl) (i:Nat) (y:Sl),(sset s i y).length=s.length
 | [],_,_=>rfl
 | _::_,0,_=>rfl
 | _::r,i+1,y=>by simp [sset,oE r i y]
theorem jn:∀{s:List Sl} {i:Nat},gI s i≠.no→i < s.length
 | [],_,h=>absurd rfl h
 | _::_,0,_=>by simp
 | _::r,i+1,h=>by
  have:=jn (s:=r) (i:=i) h
  simp;omega
theorem u6:∀(s:List Sl) (i:Nat),sset s i (gI s i)=s
 | [],_=>rfl
 | _::_,0=>rfl
 | _::r,i+1=>by simp [sset,gI,u6 r i]
theorem tZ (f:Sl→Option D) (hf:f .no=none):∀(s:List Sl) (i:Nat),fR (s.map f) i=f (gI s i)
 | [],_=>by simp [fR,gI,hf]
 | _::_,0=>rfl
 | _::r,i+1=>by simp [fR,gI,tZ f hf r i]
structure m8 (K:ab) (F0 B F H:Hp) (σ:L2.St) (s:List Sl):Prop where
 ext:Ext F0 B F H
 len:σ.length=s.length
 fz:∀i d,gI s i=.fz d→∃v,σ[i]?=some (some v)∧Den K F d v
 ow:∀i l,gI s i=.ow l→∃a vs,σ[i]?=some (some (.ref a))∧B a=none∧F a=none∧H a=some (.lst vs)∧l.length≤sizeLine∧cG K F l vs
 ne:∀i j l m a,i≠j→gI s i=.ow l→gI s j=.ow m→σ[i]?=some (some (.ref a))→σ[j]?=some (some (.ref a))→False
section
variable {K:ab} {F0 B F H F' H':Hp} {σ:L2.St} {s:List Sl}
theorem m8.slots (S:m8 K F0 B F H σ s):Slots K F σ (view s):=by
 refine ⟨by unfold view;rw [ah];exact S.len,fun i d e=>?_⟩
 unfold view at e
 rw [tZ K6 rfl] at e
 cases q:gI s i with
 | no=>rw [q] at e;cases e
 | ow l=>rw [q] at e;cases e
 | fz x =>
  rw [q] at e
  cases e
  exact S.fz i _ q
theorem m8.expr (S:m8 K F0 B F H σ s) (e:Ext F H F' H'):m8 K F0 B F' H' σ s where
 ext:=⟨S.ext.hh.trans e.hh,S.ext.ff.trans e.ff,e.fh,fun b h1 h2=>e.nw b (S.ext.nw b h1 h2) (CC S.ext.hh h2)⟩
 len:=S.len
 fz:=fun i d q=>by
  obtain ⟨v,h1,h2⟩:=S.fz i d q
  exact ⟨v,h1,cT e.ff _ _ h2⟩
 ow:=fun i l q=>by
  obtain ⟨a,vs,h1,h2,h3,h4,h5,h6⟩:=S.ow i l q
  exact ⟨a,vs,h1,h2,e.nw a h3 (by rw [h4];exact fun z=>nomatch z),e.hh _ _ h4,h5,cC e.ff _ _ h6⟩
 ne:=S.ne
theorem m8.keep (S:m8 K F0 B F H σ s) (e:bW H H'):m8 K F0 B F H' σ s where
 ext:=⟨S.ext.hh.trans e,S.ext.ff,S.ext.fh.trans e,S.ext.nw⟩
 len:=S.len
 fz:=S.fz
 ow:=fun i l q=>by
  obtain ⟨a,vs,h1,h2,h3,h4,h5,h6⟩:=S.ow i l q
  exact ⟨a,vs,h1,h2,h3,e _ _ h4,h5,h6⟩
 ne:=S.ne
theorem m8.N4 (S:m8 K F0 B F H σ s) (i:Nat):∃F',bW F F'∧m8 K F0 B F' H σ (sset s i (BF (gI s i))):=by
 cases q:gI s i with
 | no=>exact ⟨F,same_refl F,by show m8 K F0 B F H σ (sset s i .no);rw [←q,u6];exact S⟩
 | fz d=>exact ⟨F,same_refl F,by show m8 K F0 B F H σ (sset s i (.fz d));rw [←q,u6];exact S⟩
 | ow l =>
  obtain ⟨a,vs,h1,h2,h3,h4,h5,h6⟩:=S.ow i l q
  have hi:i < s.length:=jn (by rw [q];exact fun z=>nomatch z)
  have sm:bW F (upd F a (.lst vs)):=eF h3 _
  refine ⟨upd F a (.lst vs),sm,⟨S.ext.adopt h2 h4 h3,by rw [oE];exact S.len,fun j d e=>?_,fun j m e=>?_,fun j k m n b N5 e1 e2=>?_⟩⟩
  ·rw [eO] at e
   by_cases hj:i=j∧i < s.length
   ·rw [if_pos hj] at e
    cases e
    obtain ⟨rfl,_⟩:=hj
    exact ⟨.ref a,h1,gA h5 aL (cC sm _ _ h6)⟩
   ·rw [if_neg hj] at e
    obtain ⟨v,g1,g2⟩:=S.fz j d e
    exact ⟨v,g1,cT sm _ _ g2⟩
  ·rw [eO] at e
   by_cases hj:i=j∧i < s.length
   ·rw [if_pos hj] at e;cases e
   ·rw [if_neg hj] at e
    have O7:i≠j:=fun z=>hj ⟨z,hi⟩
    obtain ⟨b,us,g1,g2,g3,g4,g5,g6⟩:=S.ow j m e
    have EA:b≠a:=fun z=>S.ne i j l m a O7 q e h1 (by rw [←z];exact g1)
    exact ⟨b,us,g1,g2,by rw [aN EA];exact g3,g4,g5,cC sm _ _ g6⟩
  ·rw [eO] at e1 e2
   by_cases hj:i=j∧i < s.length
   ·rw [if_pos hj] at e1;cases e1
   ·rw [if_neg hj] at e1
    by_cases hk:i=k∧i < s.length
    ·rw [if_pos hk] at e2;cases e2
    ·rw [if_neg hk] at e2
     exact S.ne j k m n b N5 e1 e2
theorem m8.freeze:∀(fz:List Nat) {F:Hp} {s:List Sl},m8 K F0 B F H σ s→∃F',bW F F'∧m8 K F0 B F' H σ (Mi.freeze fz s)
 | [],F,s,S=>⟨F,same_refl F,S⟩
 | i::r,F,s,S=>by
  obtain ⟨F1,s1,S1⟩:=S.N4 i
  obtain ⟨F2,s2,S2⟩:=m8.freeze r S1
  exact ⟨F2,s1.trans s2,S2⟩
theorem vY:∀(fz:List Nat) (s:List Sl) (i:Nat),i < s.length→gI (Mi.freeze fz s) i=if i∈fz then BF (gI s i) else gI s i
 | [],s,i,_=>by simp [Mi.freeze]
 | j::r,s,i,hi=>by
  unfold Mi.freeze
  rw [vY r _ i (by rw [oE];exact hi),eO]
  by_cases hj:j=i
  ·subst hj
   have:∀x,BF (BF x)=BF x:=fun x=>by cases x<;>rfl
   simp [hi,this]
  ·have R3:¬i=j:=fun z=>hj z.symm
   simp [hj,R3]
theorem m8.all (S:m8 K F0 B F H σ s):∃F',bW F F'∧bW F' H∧Slots K F' σ (bA s):=by
 obtain ⟨F1,s1,S1⟩:=m8.freeze (aq s.length) S
 refine ⟨F1,s1,S1.ext.fh,by unfold bA;rw [ah];exact S.len,fun i d e=>?_⟩
 refine S1.slots.den i d ?_
 unfold bA at e
 unfold view
 rw [tZ K7 rfl] at e
 rw [tZ K6 rfl]
 have hi:i < s.length:=jn (fun z=>by rw [z] at e;cases e)
 rw [vY _ _ _ hi,if_pos (aT.mpr hi)]
 cases q:gI s i with
 | no=>rw [q] at e;cases e
 | fz x=>rw [q] at e;exact e
 | ow l=>rw [q] at e;exact e
theorem m8.set (S:m8 K F0 B F H σ s) {i:Nat} {d:D} {v:V} (hd:Den K F d v):m8 K F0 B F H (σ.set i (some v)) (sset s i (.fz d)) where
 ext:=S.ext
 len:=by rw [cO,oE];exact S.len
 fz:=fun j x e=>by
  rw [eO] at e
  by_cases hj:i=j∧i < s.length
  ·rw [if_pos hj] at e
   cases e
   obtain ⟨rfl,hl⟩:=hj
   exact ⟨v,by rw [b6 (by rw [S.len];exact hl)],hd⟩
  ·rw [if_neg hj] at e
   have hl:j < s.length:=jn (by rw [e];exact fun z=>nomatch z)
   have k6:i≠j:=fun z=>hj ⟨z,by omega⟩
   rw [bo k6]
   exact S.fz j x e
 ow:=fun j x e=>by
  rw [eO] at e
  by_cases hj:i=j∧i < s.length
  ·rw [if_pos hj] at e;cases e
  ·rw [if_neg hj] at e
   have hl:j < s.length:=jn (by rw [e];exact fun z=>nomatch z)
   have k6:i≠j:=fun z=>hj ⟨z,by omega⟩
   rw [bo k6]
   exact S.ow j x e
 ne:=fun j k m n b N5 e1 e2=>by
  rw [eO] at e1 e2
  by_cases hj:i=j∧i < s.length
  ·rw [if_pos hj] at e1;cases e1
  ·rw [if_neg hj] at e1
   by_cases hk:i=k∧i < s.length
   ·rw [if_pos hk] at e2;cases e2
   ·rw [if_neg hk] at e2
    have h1:j < s.length:=jn (by rw [e1];exact fun z=>nomatch z)
    have h2:k < s.length:=jn (by rw [e2];exact fun z=>nomatch z)
    rw [bo (fun z=>hj ⟨z,by omega⟩),bo (fun z=>hk ⟨z,by omega⟩)]
    exact S.ne j k m n b N5 e1 e2
theorem m8.own (S:m8 K F0 B F H σ s) {i:Nat} {l:List D} {vs:List V} {p:Addr} (hB:B p=none) (hF:F p=none) (hn:∀j m,gI s j=.ow m→σ[j]?≠some (some (.ref p))) (hH:H p=some (.lst vs)) (hz:l.length≤sizeLine) (hd:cG K F l vs) :
  m8 K F0 B F H (σ.set i (some (.ref p))) (sset s i (.ow l)) where
 ext:=S.ext
 len:=by rw [cO,oE];exact S.len
 fz:=fun j x e=>by
  rw [eO] at e
  by_cases hj:i=j∧i < s.length
  ·rw [if_pos hj] at e;cases e
  ·rw [if_neg hj] at e
   have hl:j < s.length:=jn (by rw [e];exact fun z=>nomatch z)
   have k6:i≠j:=fun z=>hj ⟨z,by omega⟩
   rw [bo k6]
   exact S.fz j x e
 ow:=fun j x e=>by
  rw [eO] at e
  by_cases hj:i=j∧i < s.length
  ·rw [if_pos hj] at e
   cases e
   obtain ⟨rfl,hl⟩:=hj
   exact ⟨p,vs,by rw [b6 (by rw [S.len];exact hl)],hB,hF,hH,hz,hd⟩
  ·rw [if_neg hj] at e
   have hl:j < s.length:=jn (by rw [e];exact fun z=>nomatch z)
   have k6:i≠j:=fun z=>hj ⟨z,by omega⟩
   rw [bo k6]
   exact S.ow j x e
 ne:=fun j k m n b N5 e1 e2=>by
  rw [eO] at e1 e2
  have h1:j < s.length:=by
   by_cases hj:i=j∧i < s.length
   ·omega
   ·rw [if_neg hj] at e1;exact jn (by rw [e1];exact fun z=>nomatch z)
  have h2:k < s.length:=by
   by_cases hj:i=k∧i < s.length
   ·omega
   ·rw [if_neg hj] at e2;exact jn (by rw [e2];exact fun z=>nomatch z)
  by_cases hj:i=j
  ·subst hj
   rw [if_neg (fun z=>N5 z.1)] at e2
   rw [b6 (by rw [S.len];exact h1),bo N5]
   intro q1 q2
   cases q1
   exact hn k n e2 q2
  ·by_cases hk:i=k
   ·subst hk
    rw [if_neg (fun z=>hj z.1)] at e1
    rw [b6 (by rw [S.len];exact h2),bo hj]
    intro q1 q2
    cases q2
    exact hn j m e1 q1
   ·rw [if_neg (fun z=>hj z.1)] at e1
    rw [if_neg (fun z=>hk z.1)] at e2
    rw [bo hj,bo hk]
    exact S.ne j k m n b N5 e1 e2
theorem m8.grow (S:m8 K F0 B F H σ s) {i:Nat} {l m:List D} {vs us:List V} {a:Addr} (e:gI s i=.ow l) (ha:σ[i]?=some (some (.ref a))) (hH:H a=some (.lst vs)) (hz:l.length+m.length≤sizeLine) (hd:cG K F m us) :
  m8 K F0 B F (upd H a (.lst (vs++us))) σ (sset s i (.ow (l++m))):=by
 obtain ⟨a',vs',h1,h2,h3,h4,h5,h6⟩:=S.ow i l e
 rw [ha] at h1
 cases h1
 rw [hH] at h4
 cases h4
 have hi:i < s.length:=jn (by rw [e];exact fun z=>nomatch z)
 refine ⟨S.ext.write h2 h3,by rw [oE];exact S.len,fun j x q=>?_,fun j x q=>?_,fun j k x y b N5 q1 q2=>?_⟩
 ·rw [eO] at q
  by_cases hj:i=j∧i < s.length
  ·rw [if_pos hj] at q;cases q
  ·rw [if_neg hj] at q;exact S.fz j x q
 ·rw [eO] at q
  by_cases hj:i=j∧i < s.length
  ·rw [if_pos hj] at q
   cases q
   obtain ⟨rfl,_⟩:=hj
   exact ⟨a,vs++us,ha,h2,h3,aL,by rw [ax];exact hz,jN h6 hd⟩
  ·rw [if_neg hj] at q
   have O7:i≠j:=fun z=>hj ⟨z,hi⟩
   obtain ⟨b,ws,g1,g2,g3,g4,g5,g6⟩:=S.ow j x q
   have EA:b≠a:=fun z=>S.ne i j l x a O7 e q ha (by rw [←z];exact g1)
   exact ⟨b,ws,g1,g2,g3,by rw [aN EA];exact g4,g5,g6⟩
 ·have Yv:∀j x,gI (sset s i (.ow (l++m))) j=.ow x→∃x',gI s j=.ow x':=fun j x q=>by
   rw [eO] at q
   by_cases hj:i=j∧i < s.length
   ·obtain ⟨rfl,_⟩:=hj;exact ⟨l,e⟩
   ·rw [if_neg hj] at q;exact ⟨x,q⟩
  obtain ⟨x',g1⟩:=Yv j x q1
  obtain ⟨y',g2⟩:=Yv k y q2
  exact S.ne j k x' y' b N5 g1 g2
theorem m8.fresh (S:m8 K F0 B F H σ s) {p:Addr} (h:H p=none):B p=none∧F p=none∧∀j m,gI s j=.ow m→σ[j]?≠some (some (.ref p)) :=
 ⟨same_none S.ext.hh h,same_none S.ext.fh h,fun j m q z=>by
  obtain ⟨a,vs,h1,_,_,h4,_⟩:=S.ow j m q
  rw [z] at h1
  cases h1
  rw [h] at h4
  cases h4⟩
end
noncomputable def N6 (K:ab) (F0 B F:Hp) (D:Ends):Out→Prop
 | .nx s=>∀F' H' fJ,bW F F'→m8 K F0 B F' H' fJ s→D.nx fJ H'
 | .bk s=>∀F' H' fJ,bW F F'→m8 K F0 B F' H' fJ s→D.bk fJ H'
 | .ct s=>∀F' H' fJ,bW F F'→m8 K F0 B F' H' fJ s→D.ct fJ H'
 | .rt d=>∀v F' H',bW F F'→Ext F0 B F' H'→Den K F' d v→D.rt v H'
theorem N6.mono {K:ab} {F0 B F G:Hp} {D:Ends} {o:Out} (h:N6 K F0 B F D o) (s:bW F G):N6 K F0 B G D o:=by
 cases o with
 | nx _=>exact fun F' H' fJ q=>h F' H' fJ (s.trans q)
 | bk _=>exact fun F' H' fJ q=>h F' H' fJ (s.trans q)
 | ct _=>exact fun F' H' fJ q=>h F' H' fJ (s.trans q)
 | rt _=>exact fun v F' H' q=>h v F' H' (s.trans q)
noncomputable def xI (K:ab) (ex:List Sl→Option Out):TS:=fun D σ H=>∃F0 B F s o,m8 K F0 B F H σ s∧ex s=some o∧N6 K F0 B F D o
theorem kr {X:Cx} {st:Stmt} {t t':TS} (h:PS X st t) (k:∀D σ H,t' D σ H→t D σ H):PS X st t':=fun pins s σ H D I q=>h pins s σ H D I (k D σ H q)
theorem Ic {X:Cx} {st:List Stmt} {t t':TS} (h:wm X st t) (k:∀D σ H,t' D σ H→t D σ H):wm X st t':=fun pins s σ H D I q=>h pins s σ H D I (k D σ H q)
section
variable {X:Cx} {st:Stmt} {rest:List Stmt} {e:Expr} {pos pos':Pos} {x:Str} {i:Nat}
theorem T_:wm X [] (xI X.K fun s=>some (.nx s)):=Ic c_ fun D σ H ⟨F0,B,F,s,o,S,e,q⟩=>by
 cases e
 exact q F H σ (same_refl F) S
theorem Q4 {f g:List Sl→Option Out} (h1:PS X st (xI X.K f)) (h2:wm X rest (xI X.K g)) :
  wm X (st::rest) (xI X.K fun s=>(f s).bind fun o=>match o with|.nx s1=>g s1|.rt d=>some (.rt d)|.bk s1=>some (.bk s1)|.ct s1=>some (.ct s1)) :=
 Ic (aF h1 h2) fun D σ H ⟨F0,B,F,s,o,S,e,q⟩=>by
  obtain ⟨o1,e1,e2⟩:=ae.mp e
  refine ⟨F0,B,F,s,o1,S,e1,?_⟩
  cases o1 with
  | nx s1=>exact fun F' H' fJ sm S'=>⟨F0,B,F',s1,o,S',e2,q.mono sm⟩
  | bk s1=>cases e2;exact q
  | ct s1=>cases e2;exact q
  | rt d=>cases e2;exact q
theorem Pe {K:ab} {F0 B F H:Hp} {σ:L2.St} {s:List Sl} {ev:eM→Option D} {fz:List Nat} {d:D} {Q:VK} (S:m8 K F0 B F H σ s) (e:ev (view (freeze fz s))=some d)
  (q:∀v F' H',bW F F'→m8 K F0 B F' H' σ (after d fz s)→m8 K F0 B F' H' σ (after d fz s)→Den K F' d v→Q v H'):tM K ev σ H Q:=by
 obtain ⟨F1,s1,S1⟩:=S.freeze fz
 refine ⟨F1,view (freeze fz s),d,S1.ext.fh,S1.slots,e,fun v F2 H2 ex dn=>?_⟩
 unfold after at q
 cases hs:Th d with
 | true =>
  rw [hs] at q
  have S2:=S.keep ex.hh
  exact q v F H2 (same_refl F) S2 S2 (HN dn hs)
 | false =>
  rw [hs] at q
  have S2:=S1.expr ex
  exact q v F2 H2 (s1.trans ex.ff) S2 S2 dn
theorem Ua {ev:eM→Option D} {fz:List Nat} (h:PS X (.Assign [.Name x pos'] e pos) (wo (tM X.K ev) (lA i))):PS X (.Assign [.Name x pos'] e pos) (xI X.K fun s=>(ev (view (freeze fz s))).bind fun d=>some (.nx (sset (after d fz s) i (.fz d)))) :=
 kr h fun D σ H ⟨F0,B,F,s,o,S,e,q⟩=>by
  obtain ⟨d,e1,e2⟩:=ae.mp e
  cases e2
  exact Pe S e1 fun v F' H' sm S' _ dn=>q F' H' _ sm (S'.set dn)
theorem Ub {ev:eM→Option D} {fz:List Nat} (h:PE X e (tM X.K ev)):PS X (.Return (some e) pos) (xI X.K fun s=>(ev (view (freeze fz s))).bind fun d=>some (.rt d)) :=
 kr (b5 h) fun D σ H ⟨F0,B,F,s,o,S,e,q⟩=>by
  obtain ⟨d,e1,e2⟩:=ae.mp e
  cases e2
  exact Pe S e1 fun v F' H' sm S' _ dn=>q v F' H' sm S'.ext dn
theorem Uc {a b:List Stmt} {c:Expr} {ec:eM→Option D} {f g:List Sl→Option Out} (hc:PT X c (tV X.K fun ρ=>(ec ρ).bind fU)) (ha:wm X a (xI X.K f)) (hb:wm X b (xI X.K g)) :
  PS X (.If c a b pos) (xI X.K fun s=>(ec (bA s)).bind fun d=>(fU d).bind fun k=>match k with|true=>f s|false=>g s) :=
 kr (fS hc ha hb) fun D σ H ⟨F0,B,F,s,o,S,e,q⟩=>by
  obtain ⟨d,e1,e2⟩:=ae.mp e
  obtain ⟨k,e3,e4⟩:=ae.mp e2
  obtain ⟨F1,s1,s2,sl⟩:=S.all
  refine ⟨F1,bA s,k,s2,sl,BJ e1 e3,fun F' H' ex=>?_⟩
  have S2:=S.keep ex.hh
  cases k with
  | true=>exact ⟨F0,B,F,s,o,S2,e4,q⟩
  | false=>exact ⟨F0,B,F,s,o,S2,e4,q⟩
theorem Ud {ev:eM→Option D} {o:O2} {op:Operator} {ti:Sq} (hN:X.N.Nodup) (hi:X.N[i]?=some x) (hx:Loc X.env.scope x) (hf:X.fn x=true∨X.env.scope.names.lookup x=some .local) (h:PE X e (tM X.K ev)) (hp:RQ X op ti)
  (ho:∀(a:Option D) (d r:D),yn o a d=some r→∃m n z:Int,a=some (.int m)∧d=.int n∧r=.int z∧∀H Q,Q (.int z) H→ti (.int m) (.int n) H Q) :
  PS X (.AugAssign (.Name x pos') op e pos) (xI X.K fun s=>(ev (bA s)).bind fun d=>(yn o (fR (view s) i) d).bind fun r=>some (.nx (sset s i (.fz r)))) :=
 kr (Kr hN hi hx h hp hf) fun D σ H ⟨F0,B,F,s,out,S,e,q⟩=>by
  obtain ⟨d,e1,e2⟩:=ae.mp e
  obtain ⟨r,e3,e4⟩:=ae.mp e2
  cases e4
  obtain ⟨m,n,z,h1,rfl,rfl,h2⟩:=ho _ _ _ e3
  obtain ⟨v,g1,g2⟩:=S.slots.den i _ h1
  obtain rfl:=bF g2
  obtain ⟨F1,s1,s2,sl⟩:=S.all
  refine ⟨_,g1,F1,bA s,_,s2,sl,e1,fun v F' H' ex dn=>?_⟩
  obtain rfl:=bF dn
  exact h2 H' _ (q F H' _ (same_refl F) ((S.keep ex.hh).set (bR _)))
theorem Ue {K:ab} {F0 B F H:Hp} {σ:L2.St} {s s':List Sl} {t:Tg} {d:D} {v:V} {Q:L2.St→Hp→Prop} (ht:∀l,t=.tp l→l.length=2) (S:m8 K F0 B F H σ s) (dn:Den K F d v) (e:Gq t d s=some s')
  (q:∀fJ,m8 K F0 B F H fJ s'→Q fJ H):CF K t v σ H Q:=by
 cases t with
 | nm i =>
  simp [Gq] at e
  subst e
  exact q _ (S.set dn)
 | tp is =>
  have h2:=ht is rfl
  match is,h2 with
  | [i,j],_ =>
   cases d<;>simp only [Gq,reduceCtorEq] at e
   rename_i ds
   obtain ⟨a,vs,rfl,hs,dl⟩:=ra dn
   match ds,e with
   | [x,y],e =>
    simp [BG] at e
    subst e
    obtain ⟨v1,r,rfl,d1,d2⟩:=bM dl
    obtain ⟨v2,r,rfl,d3,d4⟩:=bM d2
    obtain rfl:=bO d4
    exact ⟨a,[v1,v2],rfl,mv S.ext.fh hs,rfl,v1,[v2],rfl,v2,[],rfl,rfl,q _ ((S.set d1).set d3)⟩
   | [],e=>simp [BG] at e
   | [_],e=>simp [BG] at e
   | _::_::_::_,e=>simp [BG] at e
theorem Ug {tg it:Expr} {body:List Stmt} {t:Tg} {fz:List Nat} {ei:eM→Option (List D)} {f:List Sl→Option Out} (hp:PassesOwn (model X.prog X.w) X.A X.env X.xe) (hc:X.calm=true) (ht:∀l,t=.tp l→l.length=2) (hi:PI X tg it (HQ X.K ei)) (hg:PG X tg (CF X.K t)) (hb:wm X body (xI X.K f)) (hs:∀v,foldedSetIterable it X.env v=pure v) :
  PS X (.For tg it body [] pos) (xI X.K fun s=>(ei (view (freeze fz s))).bind fun ds=>loop t f ds (freeze fz s)) :=
 kr (Kw hp hc hi hg hb hs) fun D σ H ⟨F0,B,F,s,o,S,e,q⟩=>by
  obtain ⟨ds,e1,e2⟩:=ae.mp e
  obtain ⟨F1,s1,S1⟩:=S.freeze fz
  refine ⟨F1,view (freeze fz s),ds,S1.ext.fh,S1.slots,e1,fun J F2 H2 ex it=>?_⟩
  have S2:=S1.expr ex
  have QW:bW F F2:=s1.trans ex.ff
  refine ⟨fun i m fJ H'=>m=ds.length - i∧i≤ds.length∧∃F3 s3,bW F2 F3∧m8 X.K F0 B F3 H' fJ s3∧loop t f (ds.drop i) s3=some o,
   ⟨ds.length,by simp,c8 _,F2,freeze fz s,same_refl F2,S2,e2⟩,?_⟩
  rintro i m fJ H' ⟨rfl,hi,F3,s3,Vo,S3,e3⟩
  have sH:bW F2 H':=Vo.trans S3.ext.fh
  by_cases D3:i < ds.length
  ·obtain ⟨y,hy⟩:∃y,ds[i]?=some y:=⟨_,au D3⟩
   have Lg:ds.drop i=y::ds.drop (i+1):=by
    rw [FO D3]
    congr 1
    rw [au D3] at hy
    exact bC.inj hy
   rw [Lg] at e3
   unfold loop at e3
   obtain ⟨s4,e4,e3⟩:=ae.mp e3
   obtain ⟨o1,e5,e3⟩:=ae.mp e3
   refine .inr ⟨it.go i y H' sH hy,fun Uh Yw=>i+1≤ds.length∧∃F3 s3,bW F2 F3∧m8 X.K F0 B F3 Yw Uh s3∧loop t f (ds.drop (i+1)) s3=some o,fun Uh Yw hn=>⟨ds.length - (i+1),by omega,rfl,hn.1,hn.2⟩,fun w H4 hw=>?_⟩
   obtain ⟨F4,tW,dw⟩:=it.IX i y H' sH hy w H4 hw F3 Vo S3.ext.fh
   refine Ue ht (S3.expr tW) dw e4 fun σ5 S5=>⟨F0,B,F4,s4,o1,S5,e5,?_⟩
   have Vp:bW F2 F4:=Vo.trans tW.ff
   cases o1 with
   | nx s6=>exact fun F6 H6 SA sm S6=>⟨by omega,F6,s6,Vp.trans sm,S6,e3⟩
   | ct s6=>exact fun F6 H6 SA sm S6=>⟨by omega,F6,s6,Vp.trans sm,S6,e3⟩
   | bk s6=>cases e3;exact fun F6 H6 SA sm S6=>q F6 H6 SA (QW.trans (Vp.trans sm)) S6
   | rt d=>cases e3;exact fun v F6 H6 sm S6 dn=>q v F6 H6 (QW.trans (Vp.trans sm)) S6 dn
  ·have Xk:i=ds.length:=by omega
   subst Xk
   rw [Py] at e3
   simp [loop] at e3
   subst e3
   exact .inl ⟨it.stop _ H' sH (aY _),q F3 H' fJ (QW.trans Vo) S3⟩
theorem Ui {el:eM→Option (List D)} {fz:List Nat} (h:PS X (.Assign [.Name x pos'] e pos) (wo (J9 X.K el) (lA i))):PS X (.Assign [.Name x pos'] e pos) (xI X.K fun s=>(el (view (freeze fz s))).bind fun l=>some (.nx (sset (freeze fz s) i (.ow l)))) :=
 kr h fun D σ H ⟨F0,B,F,s,o,S,e,q⟩=>by
  obtain ⟨l,e1,e2⟩:=ae.mp e
  cases e2
  obtain ⟨F1,s1,S1⟩:=S.freeze fz
  refine ⟨F1,view (freeze fz s),l,S1.ext.fh,S1.slots,e1,fun p vs F' H' ex hp fp hv hz dl=>?_⟩
  obtain ⟨hB,_,hn⟩:=S1.fresh hp
  exact q F' H' _ (s1.trans ex.ff) ((S1.expr ex).own hB fp hn hv hz dl)
theorem EB {s s1:List Sl} {i:Nat} {m:List D} (h:CB s i m=some s1):∃l,gI s i=.ow l∧l.length+m.length≤sizeLine∧s1=sset s i (.ow (l++m)):=by
 unfold CB at h
 split at h
 ·rename_i l q
  by_cases hz:l.length+m.length≤sizeLine
  ·rw [if_pos hz] at h
   exact ⟨l,q,hz,(bC.inj h).symm⟩
  ·rw [if_neg hz] at h;cases h
 ·cases h
theorem u7 {K:ab} {F0 B F H:Hp} {σ:L2.St} {t:List Sl} {ev:eM→Option D} {i:Nat} {d:D} {l:List D} {Q:L2.St→Hp→Prop} {r:V→List V→Hp→VK→Prop} {ρ:eM} {F1:Hp}
  (S:m8 K F0 B F H σ t) (hi:gI t i=.ow l) (sm1:bW F1 H) (sl:Slots K F1 σ ρ) (e:ev ρ=some d)
  (go:∀a vs,σ[i]?=some (some (.ref a))→H a=some (.lst vs)→l.length=vs.length→∀y F2 H2,Ext F1 H F2 H2→Den K F2 d y→r (.ref a) [y] H2 (fun _ H'=>Q σ H')) :
  DY (SX K "list" r (sy i) (HP K fun ρ=>(ev ρ).bind fun x=>((fun _=>some []) ρ:Option (List D)).bind fun xs=>some (x::xs))) { nx:=Q,rt:=fun _ _=>True } σ H:=by
 obtain ⟨a,vs,h1,h2,h3,h4,h5,h6⟩:=S.ow i l hi
 refine ⟨.ref a,h1,.inl ⟨rfl,vs,fo.of h4⟩,F1,ρ,[d],sm1,sl,by simp [e],fun us F2 H2 ex dn=>?_⟩
 obtain ⟨y,r',rfl,d1,d2⟩:=bM dn
 obtain rfl:=bO d2
 exact go a vs h1 h4 (bP h6) y F2 H2 ex d1
theorem Ie {o a:Expr} {apos kh:Pos} {name:Str} {id:String} {r:V→List V→Hp→VK→Prop} {to:TE} {ev:eM→Option D} (slot:Slot "list" name id) (SY:typeOf (.builtin id)=pure (.type "method_descriptor")) (hm:Vd X id r)
  (ho:PE X o to) (hb:based o=true) (ha:PE X a (tM X.K ev)) (hp:plain a=true) (hl:(apos.endLine == kh.line)=true) :
  PE X (.Call (.Attribute o name apos) [a] [] kh) (SX X.K "list" r to (HP X.K fun ρ=>(ev ρ).bind fun x=>((fun _=>some []) ρ:Option (List D)).bind fun xs=>some (x::xs))) :=
 tR PySem.F.plainAttrs_list slot SY hm ho (km ha qp hp) (yu hb) (by rw [cX hp];rfl) hl (cX hp) rfl
theorem Uj {a:Expr} {apos kh Ln:Pos} {ev:eM→Option D} {fz:List Nat} (hv:PE X (.Name x Ln) (sy i)) (ha:PE X a (tM X.K ev)) (hp:plain a=true) (hl:(apos.endLine == kh.line)=true) :
  PS X (.Expr (.Call (.Attribute (.Name x Ln) "append" apos) [a] [] kh) pos) (xI X.K fun s=>(ev (view (freeze fz s))).bind fun d=>(CB (after d fz s) i [d]).bind fun s1=>some (.nx s1)) :=
 kr (jm (Ie PySem.F.slot_list_append PySem.F.type_list_append oy hv rfl ha hp hl)) fun D σ H ⟨F0,B,F,s,o,S,e,q⟩=>by
  obtain ⟨d,e1,e2⟩:=ae.mp e
  obtain ⟨s1,e3,e4⟩:=ae.mp e2
  cases e4
  obtain ⟨l,hi,hz,rfl⟩:=EB e3
  obtain ⟨F1,sm,S1⟩:=S.freeze fz
  rw [sv] at hz
  cases hs:Th d with
  | true =>
   have ea:after d fz s=s:=by unfold after;rw [hs]
   rw [ea] at hi q
   refine u7 (Q:=D.nx) S hi S1.ext.fh S1.slots e1 fun a vs h1 h2 h3 y F2 H2 ex dn=>?_
   refine ⟨a,vs,y,rfl,rfl,ex.hh _ _ h2,by omega,q F _ σ (same_refl F) ?_⟩
   exact (S.keep ex.hh).grow hi h1 (ex.hh _ _ h2) hz (bD (HN dn hs) bX)
  | false =>
   have ea:after d fz s=freeze fz s:=by unfold after;rw [hs]
   rw [ea] at hi q
   refine u7 (Q:=D.nx) S1 hi S1.ext.fh S1.slots e1 fun a vs h1 h2 h3 y F2 H2 ex dn=>?_
   refine ⟨a,vs,y,rfl,rfl,ex.hh _ _ h2,by omega,q F2 _ σ (sm.trans ex.ff) ?_⟩
   exact (S1.expr ex).grow hi h1 (ex.hh _ _ h2) hz (bD dn bX)
theorem Uk {a:Expr} {apos kh Ln:Pos} {ev:eM→Option D} {fz:List Nat} (hv:PE X (.Name x Ln) (sy i)) (ha:PE X a (tM X.K ev)) (hp:plain a=true) (hl:(apos.endLine == kh.line)=true) :
  PS X (.Expr (.Call (.Attribute (.Name x Ln) "extend" apos) [a] [] kh) pos) (xI X.K fun s=>(ev (view (freeze fz s))).bind fun d=>(listOf d).bind fun l=>(CB (freeze fz s) i l).bind fun s1=>some (.nx s1)) :=
 kr (jm (Ie PySem.F.slot_list_extend PySem.F.type_list_extend uR hv rfl ha hp hl)) fun D σ H ⟨F0,B,F,s,o,S,e,q⟩=>by
  obtain ⟨d,e1,e2⟩:=ae.mp e
  obtain ⟨m,e5,e2⟩:=ae.mp e2
  obtain ⟨s1,e3,e4⟩:=ae.mp e2
  cases e4
  obtain rfl:d=.lst m:=by cases d<;>simp [listOf] at e5;rw [e5]
  obtain ⟨l,hi,hz,rfl⟩:=EB e3
  obtain ⟨F1,sm,S1⟩:=S.freeze fz
  refine u7 (Q:=D.nx) S1 hi S1.ext.fh S1.slots e1 fun a vs h1 h2 h3 y F2 H2 ex dn=>?_
  obtain ⟨z1,l1,v1,rfl,g1,r1⟩:=dd dn
  have hl:=bP r1
  refine ⟨a,l1,vs,v1,rfl,rfl,ex.hh _ _ h2,ex.fh _ _ g1,by omega,q F2 _ σ (sm.trans ex.ff) ?_⟩
  exact (S1.expr ex).grow hi h1 (ex.hh _ _ h2) hz r1
noncomputable def Jz:Expr→Bool
 | .ListComp ..=>true
 | _=>false
theorem Lo {x:Expr} {t:Option Expr} {l:Nat} {env:Env} (h:plain x=true) (h2:Jz x=false):swapsWith x t l env=pure false:=by
 cases x<;>first|rfl|(simp [Jz] at h2;done)|(simp [plain] at h;done)
theorem Ig {t:TE} {a:Expr} (hN:X.N.Nodup) (hi:X.N[i]?=some x) (hx:Loc X.env.scope x) (hf:X.fn x=true∨X.env.scope.names.lookup x=some .local) (h:PE X a t) (hp:plain a=true) (h2:Jz a=false):PS X (.Assign [.Name x pos'] a pos) (wo t (lA i)) :=
 dh hN hi hx h (Lo hp h2) hf
end
end Mi
namespace Mi
open PySem PySem.Spec PyProof.Rows L2
noncomputable def t_ (s:Stmt) (k:Str→Expr→Bool):Bool:=match s with|.Assign [.Name n _] v _=>k n v|_=>false
noncomputable def Lp (s:Stmt) (k:Str→Operator→Expr→Bool):Bool:=match s with|.AugAssign (.Name n _) o v _=>k n o v|_=>false
noncomputable def Ih (s:Stmt) (k:Str→Str→Expr→Bool):Bool:=match s with|.Expr (.Call (.Attribute (.Name n _) m apos) [v] [] kh) _=>(apos.endLine == kh.line)&&k n m v|_=>false
noncomputable def Lq (s:Stmt) (k:Expr→Bool):Bool:=match s with|.Return (some v) _=>k v|_=>false
noncomputable def Lr (s:Stmt) (k:Expr→List Stmt→List Stmt→Bool):Bool:=match s with|.If c a b _=>k c a b|_=>false
noncomputable def Ls (s:Stmt) (k:Expr→Expr→List Stmt→Bool):Bool:=match s with|.For t i b [] _=>k t i b|_=>false
noncomputable def Lu (s:Stmt):Bool:=match s with|.Break _=>true|_=>false
noncomputable def Gy (s:Stmt):Bool:=match s with|.Continue _=>true|_=>false
noncomputable def Gz (s:Stmt):Bool:=match s with|.Pass _=>true|_=>false
theorem ua {s:Stmt} {k:Str→Expr→Bool} (h:t_ s k=true):∃n p v q,s=.Assign [.Name n p] v q∧k n v=true:=by unfold t_ at h;split at h;exact ⟨_,_,_,_,rfl,h⟩;cases h
theorem JA {s:Stmt} {k:Str→Operator→Expr→Bool} (h:Lp s k=true):∃n p o v q,s=.AugAssign (.Name n p) o v q∧k n o v=true:=by unfold Lp at h;split at h;exact ⟨_,_,_,_,_,rfl,h⟩;cases h
theorem BQ {s:Stmt} {k:Str→Str→Expr→Bool} (h:Ih s k=true):∃n p m a v c q,s=.Expr (.Call (.Attribute (.Name n p) m a) [v] [] c) q∧(a.endLine == c.line)=true∧k n m v=true:=by
 unfold Ih at h;split at h
 ·rw [aj] at h;exact ⟨_,_,_,_,_,_,_,rfl,h.1,h.2⟩
 ·cases h
theorem JB {s:Stmt} {k:Expr→Bool} (h:Lq s k=true):∃v q,s=.Return (some v) q∧k v=true:=by unfold Lq at h;split at h;exact ⟨_,_,rfl,h⟩;cases h
theorem JC {s:Stmt} {k:Expr→List Stmt→List Stmt→Bool} (h:Lr s k=true):∃c a b q,s=.If c a b q∧k c a b=true:=by unfold Lr at h;split at h;exact ⟨_,_,_,_,rfl,h⟩;cases h
theorem JD {s:Stmt} {k:Expr→Expr→List Stmt→Bool} (h:Ls s k=true):∃t i b q,s=.For t i b [] q∧k t i b=true:=by unfold Ls at h;split at h;exact ⟨_,_,_,_,rfl,h⟩;cases h
theorem JE {s:Stmt} (h:Lu s=true):∃q,s=.Break q:=by unfold Lu at h;split at h;exact ⟨_,rfl⟩;cases h
theorem GA {s:Stmt} (h:Gy s=true):∃q,s=.Continue q:=by unfold Gy at h;split at h;exact ⟨_,rfl⟩;cases h
theorem GB {s:Stmt} (h:Gz s=true):∃q,s=.Pass q:=by unfold Gz at h;split at h;exact ⟨_,rfl⟩;cases h
noncomputable def GC:E→Bool
 | .lst _=>true
 | .comp _ _ _ _=>true
 | _=>false
noncomputable def Lv:O2→Option Operator
 | .add=>some .Add|.sub=>some .Sub|.bor=>some .BitOr
 | _=>none
mutual
noncomputable def ub (N:List Str) (sc:Scope):S→Stmt→Bool
 | .asg i e _,st=>t_ st fun n v=>decide (N[i]?=some n)&&Jw sc n&&bN N sc e v
 | .own i e _,st=>t_ st fun n v=>decide (N[i]?=some n)&&Jw sc n&&GC e&&bN N sc e v
 | .aug i o e,st=>Lp st fun n op v=>decide (N[i]?=some n)&&Jw sc n&&decide (Lv o=some op)&&bN N sc e v
 | .app i e _,st=>Ih st fun n m v=>decide (m = "append")&&decide (N[i]?=some n)&&Lj sc n&&sR n&&bN N sc e v
 | .ext i e _,st=>Ih st fun n m v=>decide (m = "extend")&&decide (N[i]?=some n)&&Lj sc n&&sR n&&bN N sc e v
 | .ret e _,st=>Lq st fun v=>bN N sc e v
 | .jL c a b,st=>Lr st fun xc xa xb=>jG c&&bN N sc c xc&&bY N sc a xa&&bY N sc b xb
 | .jM t it _ body,st=>Ls st fun xt xi xb=>match rg t xt with
  | some own=>Q1 N sc own&&rO N sc it xi (isTup xt)&&bY N sc body xb
  | none=>false
 | .brk,st=>Lu st
 | .cont,st=>Gy st
 | .pass,st=>Gz st
noncomputable def bY (N:List Str) (sc:Scope):Ss→List Stmt→Bool
 | .nil,[]=>true
 | .cons a r,x::xs=>ub N sc a x&&bY N sc r xs
 | _,_=>false
end
mutual
noncomputable def hZ (c:Cc):S→Prop
 | .asg _ e _=>dz c e
 | .own _ e _=>dz c e
 | .aug _ _ e=>dz c e
 | .app _ e _=>dz c e
 | .ext _ e _=>dz c e
 | .ret e _=>dz c e
 | .jL d a b=>dz c d∧cZ c a∧cZ c b
 | .jM _ it _ body=>il c it∧cZ c body
 | .brk=>True
 | .cont=>True
 | .pass=>True
noncomputable def cZ (c:Cc):Ss→Prop
 | .nil=>True
 | .cons a r=>hZ c a∧cZ c r
end
theorem vZ {X:Cx} {st:Stmt} {f g:List Sl→Option Out} (h:PS X st (xI X.K f)) (e:∀s,g s=f s):PS X st (xI X.K g):=by
 have:g=f:=funext e
 rw [this];exact h
theorem Lw {X:Cx} {st:List Stmt} {f g:List Sl→Option Out} (h:wm X st (xI X.K f)) (e:∀s,g s=f s):wm X st (xI X.K g):=by
 have:g=f:=funext e
 rw [this];exact h
theorem Lx {k:Nat} {X:Cx} {t:Tg} {it:It} {c:Oe} {e:E} {v:Expr} {x:Str} {i:Nat} {pos pos':Pos} (G:Good X k) (ok:dz (Cx.cc X k) (.comp t it c e)) (h:bN X.N X.env.scope (.comp t it c e) v=true) (hi:X.N[i]?=some x) (hx:Loc X.env.scope x) (hf:X.fn x=true∨X.env.scope.names.lookup x=some .local) :
  (∀l,t=.tp l→l.length=2)∧PS X (.Assign [.Name x pos'] v pos) (wo (OX (HQ X.K (pX it)) (CF X.K t) (tV X.K (BE c)) (tM X.K (bH e)) t.slots) (lA i)):=by
 unfold bN at h
 unfold dz at ok
 have hi:=oU h
 clear h
 obtain ⟨xe,xt,xi,xl,scope,p,rfl,h⟩:=hi
 split at h
 ·rename_i own Ez
  simp only [aj,decide_eq_true_eq] at h
  obtain ⟨⟨⟨⟨⟨h1,h2⟩,h3⟩,h4⟩,h5⟩,h6⟩:=h
  refine ⟨Gw Ez,?_⟩
  rw [←h3]
  have Yx:=sI (tg:=xt) it G ok.1 h4
  have hg:∀(s:Shared) (H:Hp) (C:Addr) (cl:List (Str×Addr)) (fp:List Addr),PG (X.rM s H scope (compEnvC scope cl C X.env) fp) xt (CF X.K t):=fun s H C cl fp=>Gx (X:=X.rM s H scope (compEnvC scope cl C X.env) fp) G.calm G.nd Ez (fun p hp=>(rh h2 p hp).1) fun p hp=>HZ (rh h2 p hp).2
  have ht:∀(s:Shared) (H:Hp) (C:Addr) (cl:List (Str×Addr)) (fp:List Addr),NH (X.rM s H scope (compEnvC scope cl C X.env) fp) xl (tV X.K (BE c)):=fun s H C cl fp=>sC c (G.rM s H scope cl C fp) ok.2.1 h5
  have he:∀(s:Shared) (H:Hp) (C:Addr) (cl:List (Str×Addr)) (fp:List Addr),PE (X.rM s H scope (compEnvC scope cl C X.env) fp) xe (tM X.K (bH e)):=fun s H C cl fp=>sE e (G.rM s H scope cl C fp) ok.2.2 h6
  have WL:∃b:Bool,swapsWith (.ListComp xe [⟨xt,xi,xl,0⟩] scope p) (some (.Name x pos')) pos.line X.env=pure b∧(b=true→X.env.kindOf x=some .local):=by
   refine ⟨X.env.blockKind == .function&&X.env.kindOf x == some .local&&pos'.line == p.line&&!(scope.names.any fun (n,k)=>n == x&&(k == .local||k == .cell)),rfl,fun hb=>?_⟩
   simp only [aj,beq_iff_eq] at hb
   exact hb.1.1.2
  obtain ⟨b,hb,hl⟩:=WL
  cases b with
  | true=>exact KW G.calm G.nd hi (hl rfl) hb Yx (yj h1) hg ht he (oT (oV h4))
  | false=>exact dh G.nd hi hx (OY G.calm G.nd Yx (yj h1) hg ht he (oT (oV h4))) hb hf
 ·cases h
theorem Pf {N:List Str} {sc:Scope} {e:E} {x:Expr} (h:bN N sc e x=true) (hc:∀t it c d,e≠.comp t it c d):Jz x=false:=by
 cases hx:Jz x with
 | false=>rfl
 | true =>
  have:∃a b c d,x=.ListComp a b c d:=by
   unfold Jz at hx
   split at hx
   ·exact ⟨_,_,_,_,rfl⟩
   ·cases hx
  obtain ⟨a,b,c,d,rfl⟩:=this
  have pl:=h
  cases e<;>unfold bN at h
  case comp=>exact absurd rfl (hc _ _ _ _)
  case op o _ _ =>
   split at h
   ·simp [HX] at h
   ·split at h
    ·simp [HY] at h
    ·cases h
  case un o _ =>
   split at h
   ·simp [jO] at h
   ·split at h
    ·simp [Jv] at h
    ·simp [jO] at h
    ·cases h
  all_goals (simp [yB,rb,Jv,yC,N3,CG,jO,CH,CI,xF,BN] at h)
theorem Xp {k:Nat} {X:Cx} {e:E} {v:Expr} {x:Str} {i:Nat} {pos pos':Pos} (G:Good X k) (ok:dz (Cx.cc X k) e) (h:bN X.N X.env.scope e v=true) (hi:X.N[i]?=some x) (hx:Loc X.env.scope x) (hf:X.fn x=true∨X.env.scope.names.lookup x=some .local) :
  PS X (.Assign [.Name x pos'] v pos) (wo (tM X.K (bH e)) (lA i)):=by
 by_cases hc:∃t it c d,e=.comp t it c d
 ·obtain ⟨t,it,c,d,rfl⟩:=hc
  obtain ⟨h2,q⟩:=Lx (pos:=pos) (pos':=pos') G ok h hi hx hf
  refine kr q fun D σ H hq=>?_
  refine O_ h2 ?_
  have e1:(fun ρ=>(pX it ρ).bind fun ds=>(i_ (BE c) (bH d) t (jB ρ t.slots) ds).bind fun l=>some (.lst l))=bH (.comp t it c d):=by
   funext ρ;simp only [bH]
  rw [e1];exact hq
 ·exact Ig G.nd hi hx hf (sE e G ok h) (c7 h) (Pf h fun t it c d z=>hc ⟨t,it,c,d,z⟩)
theorem Xq {k:Nat} {X:Cx} {e:E} {v:Expr} {x:Str} {i:Nat} {pos pos':Pos} (G:Good X k) (ok:dz (Cx.cc X k) e) (h:bN X.N X.env.scope e v=true) (fr:GC e=true) (hi:X.N[i]?=some x) (hx:Loc X.env.scope x) (hf:X.fn x=true∨X.env.scope.names.lookup x=some .local) :
  PS X (.Assign [.Name x pos'] v pos) (wo (J9 X.K fun ρ=>(bH e ρ).bind listOf) (lA i)):=by
 cases e<;>simp only [GC,Na] at fr
 ·rename_i l
  have Je:=c7 h
  have hlc:=Pf h fun t it c d z=>nomatch z
  unfold bN at h
  unfold dz at ok
  have hi:=mw h
  clear h
  obtain ⟨xs,p,rfl,h⟩:=hi
  simp only [aj,decide_eq_true_eq] at h
  have hz:(1000:Nat)≤sizeLine:=by decide
  have q:=O5 (pos:=p) (R4 l G ok h.2) fun ρ ds e=>by rw [qt e];omega
  have e1:(fun ρ=>(bH (.lst l) ρ).bind listOf)=kj l:=by
   funext ρ
   simp only [bH]
   cases kj l ρ<;>rfl
  rw [e1]
  exact Ig G.nd hi hx hf q Je hlc
 ·rename_i t it c d
  obtain ⟨h2,q⟩:=Lx (pos:=pos) (pos':=pos') G ok h hi hx hf
  refine kr q fun D σ H hq=>?_
  refine Lf h2 ?_
  have e1:(fun ρ=>(pX it ρ).bind fun ds=>i_ (BE c) (bH d) t (jB ρ t.slots) ds)=fun ρ=>(bH (.comp t it c d) ρ).bind listOf:=by
   funext ρ
   simp only [bH]
   cases pX it ρ with
   | none=>rfl
   | some ds =>
    show i_ (BE c) (bH d) t (jB ρ t.slots) ds=((i_ (BE c) (bH d) t (jB ρ t.slots) ds).bind fun l=>some (.lst l)).bind listOf
    cases i_ (BE c) (bH d) t (jB ρ t.slots) ds<;>rfl
  rw [e1];exact hq
theorem Q5 {X:Cx} {o:O2} {op:Operator} (h:Lv o=some op):∃ti,RQ X op ti∧∀(a:Option D) (d r:D),yn o a d=some r→∃m n z:Int,a=some (.int m)∧d=.int n∧r=.int z∧∀H Q,Q (.int z) H→ti (.int m) (.int n) H Q:=by
 have inv:∀(a:Option D) (d r:D),yn o a d=some r→∃m n:Int,a=some (.int m)∧d=.int n:=fun a d r q=>by
  unfold yn at q
  split at q
  ·exact ⟨_,_,rfl,rfl⟩
  ·cases q
 cases o<;>simp only [Lv,reduceCtorEq,bC.injEq] at h<;>subst h
 ·refine ⟨_,Kt,fun a d r q=>?_⟩
  obtain ⟨m,n,rfl,rfl⟩:=inv a d r q
  simp only [yn] at q
  cases q
  exact ⟨m,n,_,rfl,rfl,rfl,fun H Q hq=>⟨m,n,rfl,rfl,hq⟩⟩
 ·refine ⟨_,P7,fun a d r q=>?_⟩
  obtain ⟨m,n,rfl,rfl⟩:=inv a d r q
  simp only [yn] at q
  cases q
  exact ⟨m,n,_,rfl,rfl,rfl,fun H Q hq=>⟨m,n,rfl,rfl,hq⟩⟩
 ·refine ⟨_,QX,fun a d r q=>?_⟩
  obtain ⟨m,n,rfl,rfl⟩:=inv a d r q
  simp only [yn] at q
  cases q
  exact ⟨m,n,_,rfl,rfl,rfl,fun H Q hq=>⟨m,n,rfl,rfl,hq⟩⟩
mutual
theorem sS {k:Nat}:∀(a:S) {X:Cx} {st:Stmt},Good X k→(∀x,X.fn x=true)→PassesOwn (model X.prog X.w) X.A X.env X.xe→hZ (Cx.cc X k) a→ub X.N X.env.scope a st=true→PS X st (xI X.K (uI a))
 | .asg i e fz,X,st,G,hf,hp,ok,h=>by
  unfold ub at h
  unfold hZ at ok
  have hi:=ua h
  clear h
  obtain ⟨n,p,v,q,rfl,h⟩:=hi
  simp only [aj,decide_eq_true_eq] at h
  exact vZ (Ua (fz:=fz) (Xp G ok h.2 h.1.1 (xH h.1.2) (.inl (hf n)))) fun s=>by simp only [uI]
 | .own i e fz,X,st,G,hf,hp,ok,h=>by
  unfold ub at h
  unfold hZ at ok
  have hi:=ua h
  clear h
  obtain ⟨n,p,v,q,rfl,h⟩:=hi
  simp only [aj,decide_eq_true_eq] at h
  exact vZ (Ui (fz:=fz) (Xq G ok h.2 h.1.2 h.1.1.1 (xH h.1.1.2) (.inl (hf n)))) fun s=>by
   simp only [uI]
   cases bH e (view (freeze fz s))<;>rfl
 | .aug i o e,X,st,G,hf,hp,ok,h=>by
  unfold ub at h
  unfold hZ at ok
  have hi:=JA h
  clear h
  obtain ⟨n,p,op,v,q,rfl,h⟩:=hi
  simp only [aj,decide_eq_true_eq] at h
  obtain ⟨ti,h1,h2⟩:=Q5 (X:=X) h.1.2
  exact vZ (Ud G.nd h.1.1.1 (xH h.1.1.2) (.inl (hf n)) (sE e G ok h.2) h1 h2) fun s=>by simp only [uI]
 | .app i e fz,X,st,G,hf,hp,ok,h=>by
  unfold ub at h
  unfold hZ at ok
  have hi:=BQ h
  clear h
  obtain ⟨n,p,m,a,v,c,q,rfl,hl,h⟩:=hi
  simp only [aj,decide_eq_true_eq] at h
  obtain ⟨⟨⟨⟨rfl,h1⟩,h2⟩,h3⟩,h4⟩:=h
  exact vZ (Uj (fz:=fz) (Cm h1 (CJ h2) (jC h3).1 (jC h3).2) (sE e G ok h4) (c7 h4) hl) fun s=>by simp only [uI]
 | .ext i e fz,X,st,G,hf,hp,ok,h=>by
  unfold ub at h
  unfold hZ at ok
  have hi:=BQ h
  clear h
  obtain ⟨n,p,m,a,v,c,q,rfl,hl,h⟩:=hi
  simp only [aj,decide_eq_true_eq] at h
  obtain ⟨⟨⟨⟨rfl,h1⟩,h2⟩,h3⟩,h4⟩:=h
  exact vZ (Uk (fz:=fz) (Cm h1 (CJ h2) (jC h3).1 (jC h3).2) (sE e G ok h4) (c7 h4) hl) fun s=>by simp only [uI]
 | .ret e fz,X,st,G,hf,hp,ok,h=>by
  unfold ub at h
  unfold hZ at ok
  have hi:=JB h
  clear h
  obtain ⟨v,q,rfl,h⟩:=hi
  exact vZ (Ub (fz:=fz) (sE e G ok h)) fun s=>by simp only [uI]
 | .jL c a b,X,st,G,hf,hp,ok,h=>by
  unfold ub at h
  unfold hZ at ok
  have hi:=JC h
  clear h
  obtain ⟨xc,xa,xb,q,rfl,h⟩:=hi
  simp only [aj] at h
  exact vZ (Uc (sT c G ok.1 h.1.1.2 h.1.1.1) (R5 a G hf hp ok.2.1 h.1.2) (R5 b G hf hp ok.2.2 h.2)) fun s=>by simp only [uI]<;>rfl
 | .jM t it fz body,X,st,G,hf,hp,ok,h=>by
  unfold ub at h
  unfold hZ at ok
  have hi:=JD h
  clear h
  obtain ⟨xt,xi,xb,q,rfl,h⟩:=hi
  split at h
  ·rename_i own Ez
   simp only [aj] at h
   exact vZ (Ug (fz:=fz) hp G.calm (Gw Ez) (sI it G ok.1 h.1.2) (Gx G.calm G.nd Ez (fun p hp=>(rh h.1.1 p hp).1) fun p hp=>⟨(rh h.1.1 p hp).2,.inl (hf _)⟩) (R5 body G hf hp ok.2 h.2) (oT (oV h.1.2))) fun s=>by simp only [uI]
  ·cases h
 | .brk,X,st,G,hf,hp,ok,h=>by
  unfold ub at h
  obtain ⟨q,rfl⟩:=JE h
  refine kr Kp fun D σ H ⟨F0,B,F,s,o,S,e,q⟩=>?_
  simp only [uI] at e
  cases e
  exact q F H σ (same_refl F) S
 | .cont,X,st,G,hf,hp,ok,h=>by
  unfold ub at h
  obtain ⟨q,rfl⟩:=GA h
  refine kr DX fun D σ H ⟨F0,B,F,s,o,S,e,q⟩=>?_
  simp only [uI] at e
  cases e
  exact q F H σ (same_refl F) S
 | .pass,X,st,G,hf,hp,ok,h=>by
  unfold ub at h
  obtain ⟨q,rfl⟩:=GB h
  refine kr Nl fun D σ H ⟨F0,B,F,s,o,S,e,q⟩=>?_
  simp only [uI] at e
  cases e
  exact q F H σ (same_refl F) S
theorem R5 {k:Nat}:∀(l:Ss) {X:Cx} {st:List Stmt},Good X k→(∀x,X.fn x=true)→PassesOwn (model X.prog X.w) X.A X.env X.xe→cZ (Cx.cc X k) l→bY X.N X.env.scope l st=true→wm X st (xI X.K (cf l))
 | .nil,X,[],G,hf,hp,ok,h=>Lw T_ fun s=>by simp only [cf]
 | .cons a r,X,x::xs,G,hf,hp,ok,h=>by
  unfold bY at h
  unfold cZ at ok
  rw [aj] at h
  exact Lw (Q4 (sS a G hf hp ok.1 h.1) (R5 r G hf hp ok.2 h.2)) fun s=>by simp only [cf]<;>rfl
 | .nil,X,_::_,G,hf,hp,ok,h=>by unfold bY at h;cases h
 | .cons _ _,X,[],G,hf,hp,ok,h=>by unfold bY at h;cases h
end
theorem oF:∀(ds:List D) (m:Nat) (i:Nat) (y:Sl),gI (ds.map Sl.fz++aH m .no) i=y→y≠.no→∃d,ds[i]?=some d∧y=.fz d
 | [],0,i,y,h,hy=>by simp [gI] at h;exact absurd h.symm hy
 | [],m+1,0,y,h,hy=>by simp [cM,gI] at h;exact absurd h.symm hy
 | [],m+1,i+1,y,h,hy=>by
  obtain ⟨d,h1,_⟩:=oF [] m i y (by simpa [cM,gI] using h) hy
  simp at h1
 | d::ds,m,0,y,h,hy=>by
  simp [gI] at h
  exact ⟨d,rfl,h.symm⟩
 | d::ds,m,i+1,y,h,hy=>by
  obtain ⟨x,h1,h2⟩:=oF ds m i y (by simpa [gI] using h) hy
  exact ⟨x,by simpa using h1,h2⟩
theorem u9 {K:ab} {F H:Hp} {N:List Str} {vs:List V} {ds:List D} (sm:bW F H) (dl:cG K F ds vs):m8 K F H F H (L2.start N vs) (ds.map Sl.fz++aH (N.length - ds.length) .no):=by
 have hl:=bP dl
 refine ⟨.refl sm,by simp [L2.start,hl],fun i d q=>?_,fun i l q=>?_,fun i j l m a _ q=>?_⟩
 ·obtain ⟨x,h1,h2⟩:=oF _ _ _ _ q (fun z=>nomatch z)
  cases h2
  obtain ⟨v,h3,h4⟩:=fK dl h1
  refine ⟨v,?_,h4⟩
  have hi:i < vs.length:=(cv.mp h3).1
  unfold L2.start
  rw [jz (by rw [ah];exact hi),b8,h3]
  rfl
 ·obtain ⟨x,h1,h2⟩:=oF _ _ _ _ q (fun z=>nomatch z)
  cases h2
 ·obtain ⟨x,h1,h2⟩:=oF _ _ _ _ q (fun z=>nomatch z)
  cases h2
theorem Ul {P:Program} {w:World} {K:ab} {mg:Str→Option Value} {base:Heap} {x qual:Str} {st:Stmt} {f:Addr} {fd:FuncData} {N ps:List Str} {k:Nat} {body:Ss} (F:p6 K x qual st f fd) (S:aS N ps (aa st))
  (hc:bY N (aa st) body (bc st)=true) (ok:cZ ⟨P,w,K,mg,base,k⟩ body) (bl:Vn mg):eS P w K mg base iR (k+1) f fd ps (M0 K ps.length (bQ N.length body)):=by
 refine F.ok S (fun vs H Q E h=>h.1) (fun ft A outer s H vs Q E hr h=>?_)
 obtain ⟨hl,F0,ds,d,sm,dl,e,q⟩:=h
 have G:Good (iz iR P w K mg base N qual (aa st) f ft A outer s H E).q5 k:=⟨hr,rfl,S.nd,bl⟩
 refine ⟨xI K (cf body),R5 body G (fun _=>rfl) PassesOwn.never ok hc,?_⟩
 unfold bQ at e
 obtain ⟨o,e1,e2⟩:=ae.mp e
 refine ⟨F0,H,F0,_,o,u9 sm dl,e1,?_⟩
 cases o with
 | nx s1=>cases e2;exact fun F' H' fJ _ S'=>q .gH F' H' S'.ext K8
 | rt r=>cases e2;exact fun v F' H' _ ex dn=>q v F' H' ex dn
 | bk s1=>cases e2
 | ct s1=>cases e2
theorem Um {P:Program} {w:World} {K:ab} {mg:Str→Option Value} {base:Heap} {k:Nat} {f:Addr} {fd:FuncData} {ps:List Str} {g g':List D→Option D} (F:eS P w K mg base iR k f fd ps (M0 K ps.length g)) (h:∀ds d,g' ds=some d→g ds=some d) :
  eS P w K mg base iR k f fd ps (M0 K ps.length g') :=
 F.imp fun vs H Q E ⟨hl,F0,ds,d,sm,dl,e,q⟩=>⟨hl,F0,ds,d,sm,dl,h ds d e,q⟩
end Mi
namespace Wy
open Kh321
noncomputable def markFrom (n:Nat):Nat→List Nat→Nat→Nat
 | _,[],m=>m
 | x,h::r,m=>markFrom n (x+1) r (m ||| 2 ^ (x*n+h - 1))
noncomputable def mark (n:Nat) (r:List Nat):Nat:=markFrom n 0 r 0
noncomputable def Row (n:Nat) (r:List Nat):Prop:=r.length=n∧∀h∈r,1≤h∧h≤n
theorem uc (n:Nat):∀(r:List Nat) (x m j:Nat),(markFrom n x r m).testBit j=true ↔ m.testBit j=true∨∃y h,r[y]?=some h∧j=(x+y)*n+h - 1
 | [],x,m,j=>by simp [markFrom]
 | h::r,x,m,j=>by
  rw [markFrom,uc n r (x+1) _ j,uG,gU,cY,decide_eq_true_eq]
  constructor
  ·rintro ((h1|h1)|⟨y,g,h1,h2⟩)
   ·exact .inl h1
   ·exact .inr ⟨0,h,rfl,by simp [h1]⟩
   ·exact .inr ⟨y+1,g,by simpa using h1,by rw [h2];congr 3;omega⟩
  ·rintro (h1|⟨y,g,h1,h2⟩)
   ·exact .inl (.inl h1)
   ·cases y with
    | zero =>
     simp at h1
     subst h1
     exact .inl (.inr (by simp [h2]))
    | succ y=>exact .inr ⟨y,g,by simpa using h1,by rw [h2];congr 3;omega⟩
theorem JF {n x y g h:Nat} (hg:1≤g∧g≤n) (hh:1≤h∧h≤n) (e:x*n+g - 1=y*n+h - 1):x=y∧g=h:=by
 have hn:0 < n:=by omega
 have e2:x*n+(g - 1)=y*n+(h - 1):=by omega
 have h1:(x*n+(g - 1)) / n=x:=by
  rw [r6,Kb _ _ hn,ml (by omega),cj]
 have h2:(y*n+(h - 1)) / n=y:=by
  rw [r6,Kb _ _ hn,ml (by omega),cj]
 have h3:x=y:=by rw [←h1,e2,h2]
 subst h3
 exact ⟨rfl,by omega⟩
noncomputable def apart (q r:List Nat):Bool:=(q.zip r).all fun x=>x.1 != x.2
theorem BR {q r:List Nat} (_hl:q.length=r.length):apart q r=true ↔ ∀(y h:Nat),q[y]?=some h→r[y]?=some h→False:=by
 unfold apart
 rw [aZ]
 constructor
 ·intro H y h h1 h2
  have:=H (h,h) (by
   rw [J1]
   exact ⟨y,by rw [FP];exact ⟨h1,h2⟩⟩)
  simp at this
 ·rintro H ⟨a,b⟩ EA
  rw [J1] at EA
  obtain ⟨y,hy⟩:=EA
  rw [FP] at hy
  simp only [bne_iff_ne,ne_eq]
  intro e
  subst e
  exact H y a hy.1 hy.2
theorem and_zero {a b:Nat}:a &&& b=0 ↔ ∀j,¬(a.testBit j=true∧b.testBit j=true):=by
 constructor
 ·intro h j ⟨h1,h2⟩
  have:(a &&& b).testBit j=true:=by rw [Nat.testBit_and,h1,h2];rfl
  rw [h] at this
  simp at this
 ·intro h
  apply uH
  intro j
  rw [Nat.testBit_and,Nat.zero_testBit]
  cases h1:a.testBit j<;>cases h2:b.testBit j<;>simp
  exact h j ⟨h1,h2⟩
noncomputable def marks (n:Nat) (l:List (List Nat)):Nat:=l.foldl (fun m r=>m ||| mark n r) 0
theorem GD (n:Nat) (l:List (List Nat)) (r:List Nat):marks n (l++[r])=marks n l ||| mark n r:=by
 unfold marks;rw [List.foldl_append];rfl
theorem u_ (n:Nat):∀(l:List (List Nat)) (m j:Nat),(l.foldl (fun m r=>m ||| mark n r) m).testBit j=true ↔ m.testBit j=true∨∃r∈l,(mark n r).testBit j=true
 | [],m,j=>by simp
 | r::l,m,j=>by
  rw [b9,u_ n l _ j,uG,cY]
  constructor
  ·rintro ((h|h)|⟨q,h1,h2⟩)
   ·exact .inl h
   ·exact .inr ⟨r,by simp,h⟩
   ·exact .inr ⟨q,by simp [h1],h2⟩
  ·rintro (h|⟨q,h1,h2⟩)
   ·exact .inl (.inl h)
   ·rcases aG.mp h1 with rfl|h1
    ·exact .inl (.inr h2)
    ·exact .inr ⟨q,h1,h2⟩
theorem EC {n:Nat} {l:List (List Nat)} {r:List Nat} (hl:∀q∈l,Row n q) (hr:Row n r):(marks n l &&& mark n r=0) ↔ l.all (fun q=>apart q r)=true:=by
 rw [and_zero,aZ]
 constructor
 ·intro H q hq
  rw [BR ((hl q hq).1.trans hr.1.symm)]
  intro y h h1 h2
  refine H (y*n+h - 1) ⟨?_,?_⟩
  ·unfold marks
   rw [u_]
   exact .inr ⟨q,hq,by unfold mark;rw [uc];exact .inr ⟨y,h,h1,by simp⟩⟩
  ·unfold mark
   rw [uc]
   exact .inr ⟨y,h,h2,by simp⟩
 ·rintro H j ⟨h1,h2⟩
  unfold marks at h1
  rw [u_] at h1
  rcases h1 with h1|⟨q,hq,h1⟩
  ·simp at h1
  ·unfold mark at h1 h2
   rw [uc] at h1 h2
   rcases h1 with h1|⟨y,g,h1,e1⟩
   ·simp at h1
   ·rcases h2 with h2|⟨z,h,h2,e2⟩
    ·simp at h2
    ·obtain ⟨e3,e4⟩:=JF ((hl q hq).2 g (b7 h1)) (hr.2 h (b7 h2)) (by rw [cj] at e1 e2;rw [←e1,e2])
     subst e3 e4
     exact (BR ((hl q hq).1.trans hr.1.symm)).mp (H q hq) y g h1 h2
noncomputable def lay (n:Nat) (t:Town) (c:Clues) (y:Nat) (L:List (List (List Nat))):List (List (List Nat)) :=
 L.flatMap fun l=>((lineWays n t c 3 y).filter fun r=>l.all fun q=>apart q r).map fun r=>l++[r]
noncomputable def Ly (n:Nat) (t:Town) (c:Clues):Nat→Nat→List (List (List Nat))→List (List (List Nat))
 | 0,_,L=>L
 | m+1,y,L=>Ly n t c m (y+1) (lay n t c y L)
theorem BS (n:Nat) (t:Town) (c:Clues):∀(m y:Nat) (L:List (List (List Nat))),Ly n t c m y L=L.flatMap (rows n t c m y)
 | 0,y,L=>by
  show L=L.flatMap (fun l=>[l])
  induction L with
  | nil=>rfl
  | cons a L ih=>rw [b_,←ih];rfl
 | m+1,y,L=>by
  rw [Ly,BS n t c m (y+1),lay,List.flatMap_assoc]
  congr 1
  funext l
  rw [rows,Pz]
  rfl
noncomputable def kept (n:Nat) (l:List (List Nat)):Nat×List Nat:=(marks n l,l.flatten)
noncomputable def m9 (B R:List (Nat×List Nat)):List (Nat×List Nat):=B.flatMap fun p=>(R.filter fun q=>decide (p.1 &&& q.1=0)).map fun q=>(p.1 ||| q.1,p.2++q.2)
theorem kH {α β:Type} {f g:α→List β}:∀{l:List α},(∀a∈l,f a=g a)→l.flatMap f=l.flatMap g
 | [],_=>rfl
 | a::l,h=>by rw [b_,b_,h a (by simp),kH fun b hb=>h b (by simp [hb])]
theorem ED {n:Nat} {L:List (List (List Nat))} {R:List (List Nat)} (hL:∀l∈L,∀q∈l,Row n q) (hR:∀r∈R,Row n r) :
  m9 (L.map (kept n)) (R.map fun r=>(mark n r,r))=(L.flatMap fun l=>(R.filter fun r=>l.all fun q=>apart q r).map fun r=>l++[r]).map (kept n):=by
 unfold m9
 rw [Pz,qa]
 apply kH
 intro l hl
 rw [ba,j9,ba]
 have e:(R.filter ((fun q:Nat×List Nat=>decide ((kept n l).1 &&& q.1=0))∘fun r=>(mark n r,r)))=R.filter fun r=>l.all fun q=>apart q r:=by
  apply cU
  intro r hr
  have:=EC (hL l hl) (hR r hr)
  show decide (marks n l &&& mark n r=0)=_
  by_cases h:marks n l &&& mark n r=0
  ·rw [decide_eq_true h,this.mp h]
  ·rw [decide_eq_false h]
   cases q:(l.all fun q=>apart q r) with
   | false=>rfl
   | true=>exact absurd (this.mpr q) h
 rw [e]
 apply bT
 intro r _
 simp only [Function.comp,kept,GD,List.flatten_append,bB,PB,gn]
end Wy
namespace Mi
open PySem
theorem iD {α:Type} {c:eM→Option Bool} {e:eM→Option D} {t:Tg} {ρ:eM} (f:α→D) (p:α→Bool) (h:α→D):∀(xs:List α),(∀x∈xs,∃HW,Jp t (f x) ρ=some HW∧c HW=some (p x)∧(p x=true→e HW=some (h x))) →
  i_ c e t ρ (xs.map f)=some ((xs.filter p).map h)
 | [],_=>by simp [i_]
 | x::xs,H=>by
  obtain ⟨HW,h1,h2,h3⟩:=H x (by simp)
  have ih:=iD (c:=c) (e:=e) (t:=t) (ρ:=ρ) f p h xs fun y hy=>H y (by simp [hy])
  rw [aO,i_,h1]
  simp only [bz,h2]
  cases hp:p x with
  | true=>simp [h3 hp,ih,hp]
  | false=>simp [ih,hp]
theorem dD {α:Type} {c:eM→Option Bool} {e:eM→Option D} {t:Tg} {ρ:eM} (f:α→D) (h:α→D) (xs:List α) (H:∀x∈xs,∃HW,Jp t (f x) ρ=some HW∧c HW=some true∧e HW=some (h x)) :
  i_ c e t ρ (xs.map f)=some (xs.map h):=by
 have:=iD (c:=c) (e:=e) (t:=t) (ρ:=ρ) f (fun _=>true) h xs fun x hx=>by
  obtain ⟨HW,h1,h2,h3⟩:=H x hx
  exact ⟨HW,h1,h2,fun _=>h3⟩
 rw [this,MM.mpr (fun _ _=>rfl)]
theorem dE {α β:Type} {t:Tg} {body:List Sl→Option Out} (f:α→D) (step:β→α→β) (I:β→List α→List Sl→Prop)
  (hs:∀b a r s,I b (a::r) s→∃s1 s2,Gq t (f a) s=some s1∧body s1=some (.nx s2)∧I (step b a) r s2) :
  ∀(l:List α) (b:β) (s:List Sl),I b l s→∃s',loop t body (l.map f) s=some (.nx s')∧I (l.foldl step b) [] s'
 | [],b,s,h=>⟨s,by simp [loop],h⟩
 | a::r,b,s,h=>by
  obtain ⟨s1,s2,h1,h2,h3⟩:=hs b a r s h
  obtain ⟨s3,h4,h5⟩:=dE f step I hs r (step b a) s2 h3
  refine ⟨s3,?_,h5⟩
  rw [aO,loop,h1]
  simp only [bz,h2]
  exact h4
theorem rj {α:Type} {t:Tg} {body:List Sl→Option Out} (f:α→D) (I:List Sl→Prop) (g:α→Option D)
  (l:List α) (hs:∀s,I s→∀a∈l,∃s1,Gq t (f a) s=some s1∧(match g a with|some d=>body s1=some (.rt d)|none=>∃s2,body s1=some (.nx s2)∧I s2)) :
  ∀(s:List Sl),I s→match l.findSome? g with|some d=>loop t body (l.map f) s=some (.rt d)|none=>∃s',loop t body (l.map f) s=some (.nx s')∧I s':=by
 induction l with
 | nil=>intro s h;exact ⟨s,by simp [loop],h⟩
 | cons a r ih =>
  intro s h
  obtain ⟨s1,h1,h2⟩:=hs s h a (by simp)
  have ih':=ih fun s hI a' ha=>hs s hI a' (by simp [ha])
  cases hg:g a with
  | some d =>
   rw [hg] at h2
   simp only [c6,hg]
   rw [aO,loop,h1]
   simp only [bz,h2]
  | none =>
   rw [hg] at h2
   obtain ⟨s2,h2,h3⟩:=h2
   simp only [c6,hg]
   rw [aO,loop,h1]
   simp only [bz,h2]
   exact ih' s2 h3
section
variable {ρ HW:eM} {a b c:E} {x y d:D} {l:Es} {ds:List D}
theorem af {i:Nat} (h:fR ρ i=some d):bH (.var i) ρ=some d:=by simp only [bH];exact h
theorem a_ {z:Int}:bH (.int z) ρ=some (.int z):=by simp only [bH]
theorem JG {z:Bool}:bH (.bl z) ρ=some (.bl z):=by simp only [bH]
theorem bZ {s:Str}:bH (.gl s d) ρ=some d:=by simp only [bH]
theorem bx {o:O2} (ha:bH a ρ=some x) (hb:bH b ρ=some y) (h:i9 o x y=some d):bH (.op o a b) ρ=some d:=by
 simp only [bH];rw [ha,hb];exact h
theorem fV {o:O1} (ha:bH a ρ=some x) (h:vU o x=some d):bH (.un o a) ρ=some d:=by
 simp only [bH];rw [ha];exact h
theorem v7 {k:Bool} (ha:bH a ρ=some (.bl k)):bH (.not a) ρ=some (.bl !k):=by
 simp only [bH];rw [ha];rfl
theorem cq {f:Str} (ha:bH a ρ=some x) (h:qo x f=some d):bH (.fld a f) ρ=some d:=by
 simp only [bH];rw [ha];exact h
theorem eA (ha:bH a ρ=some x) (hb:bH b ρ=some y) (h:Gn x y=some d):bH (.ix a b) ρ=some d:=by
 simp only [bH];rw [ha,hb];exact h
theorem Pg (ha:bH a ρ=some x) (hb:bH b ρ=some y) (h:Jq x y=some d):bH (.cnt a b) ρ=some d:=by
 simp only [bH];rw [ha,hb];exact h
theorem Q6 {z:D} (ha:bH a ρ=some x) (hb:bH b ρ=some y) (hc:bH c ρ=some z) (h:Eo x y z=some d):bH (.step a b c) ρ=some d:=by
 simp only [bH];rw [ha,hb,hc];exact h
theorem EE {lo hi:Oe} {u v:Option Int} (ha:bH a ρ=some x) (hl:J8 lo ρ=some u) (hh:J8 hi ρ=some v) (h:J7 x u v=some d):bH (.sl a lo hi) ρ=some d:=by
 simp only [bH];rw [ha,hl,hh];exact h
theorem Xr:J8 .no ρ=some none:=by simp only [J8]
theorem pO {z:Int} (ha:bH a ρ=some (.int z)):J8 (.yes a) ρ=some (some z):=by
 simp only [J8];rw [ha];rfl
theorem ay:kj .nil ρ=some []:=by simp only [kj]
theorem ai (ha:bH a ρ=some x) (hl:kj l ρ=some ds):kj (.cons a l) ρ=some (x::ds):=by
 simp only [kj];rw [ha,hl];rfl
theorem aM {f:Str} {g:List D→Option D} (hl:kj l ρ=some ds) (h:g ds=some d):bH (.call f g l) ρ=some d:=by
 simp only [bH];rw [hl];exact h
theorem cE (hl:kj l ρ=some ds):bH (.lst l) ρ=some (.lst ds):=by
 simp only [bH];rw [hl];rfl
theorem ud (hl:kj l ρ=some ds):bH (.tup l) ρ=some (.tup ds):=by
 simp only [bH];rw [hl];rfl
theorem vc {p q:Bool} (ha:bH a ρ=some (.bl p)) (hb:p=true→bH b ρ=some (.bl q)):bH (.and (.cons a (.cons b .nil))) ρ=some (.bl (p&&q)):=by
 simp only [bH,r9];rw [ha]
 cases p with
 | false=>rfl
 | true=>exact hb rfl
theorem Q7 {p q r:Bool} (ha:bH a ρ=some (.bl p)) (hb:p=true→bH b ρ=some (.bl q)) (hc:p=true→q=true→bH c ρ=some (.bl r)):bH (.and (.cons a (.cons b (.cons c .nil)))) ρ=some (.bl (p&&(q&&r))):=by
 simp only [bH,r9];rw [ha]
 cases p with
 | false=>rfl
 | true =>
  show ((bH b ρ).bind fun x=>(fU x).bind fun k=>match k with|true=>bH c ρ|false=>some (.bl false))=_
  rw [hb rfl]
  cases q with
  | false=>rfl
  | true=>exact hc rfl rfl
theorem BU {p q:Bool} (ha:bH a ρ=some (.bl p)) (hb:p=false→bH b ρ=some (.bl q)):bH (.or (.cons a (.cons b .nil))) ρ=some (.bl (p||q)):=by
 simp only [bH,Ak];rw [ha]
 cases p with
 | true=>rfl
 | false=>exact hb rfl
theorem Ph {p q r:Bool} (ha:bH a ρ=some (.bl p)) (hb:p=false→bH b ρ=some (.bl q)) (hc:p=false→q=false→bH c ρ=some (.bl r)):bH (.or (.cons a (.cons b (.cons c .nil)))) ρ=some (.bl (p||(q||r))):=by
 simp only [bH,Ak];rw [ha]
 cases p with
 | true=>rfl
 | false =>
  show ((bH b ρ).bind fun x=>(fU x).bind fun k=>match k with|true=>some (.bl true)|false=>bH c ρ)=_
  rw [hb rfl]
  cases q with
  | true=>rfl
  | false=>exact hc rfl rfl
theorem eG {t:Tg} {it:It} {k:Oe} {out:List D} (hi:pX it ρ=some ds) (h:i_ (BE k) (bH a) t (jB ρ t.slots) ds=some out):bH (.comp t it k a) ρ=some (.lst out):=by
 simp only [bH];rw [hi]
 show (i_ (BE k) (bH a) t (jB ρ t.slots) ds).bind _=_
 rw [h];rfl
theorem kW:BE .no ρ=some true:=by simp only [BE]
theorem oX {p:Bool} (ha:bH a ρ=some (.bl p)):BE (.yes a) ρ=some p:=by simp only [BE];rw [ha];rfl
theorem eT (ha:bH a ρ=some (.lst ds)):pX (.lst a) ρ=some ds:=by simp only [pX];rw [ha];rfl
theorem jc (ha:bH a ρ=some x) (h:itR 0 x=some ds):pX (.pW a) ρ=some ds:=by simp only [pX];rw [ha];exact h
theorem N7 (ha:bH a ρ=some x) (hb:bH b ρ=some y) (h:Gp x y=some ds):pX (.En a b) ρ=some ds:=by simp only [pX];rw [ha,hb];exact h
theorem xJ (ha:bH a ρ=some (.lst ds)):pX (.enum a) ρ=some (oB 0 ds):=by simp only [pX];rw [ha];rfl
theorem Q8 {es:List D} (ha:bH a ρ=some (.lst ds)) (hb:bH b ρ=some (.lst es)):pX (.zip a b) ρ=some (sL ds es):=by simp only [pX];rw [ha,hb];rfl
end
section
variable {r a b:Ss} {s s1:List Sl} {i:Nat} {e c:E} {fz:List Nat} {d:D} {l:List D} {o:Out}
theorem cH (h:bH e (view (freeze fz s))=some d):cf (.cons (.asg i e fz) r) s=cf r (sset (after d fz s) i (.fz d)):=by
 simp only [cf,uI,h,bz]
theorem oY (h:bH e (view (freeze fz s))=some (.lst l)):cf (.cons (.own i e fz) r) s=cf r (sset (freeze fz s) i (.ow l)):=by
 simp only [cf,uI,h,bz,listOf]
theorem sU {o:O2} {x:D} (h:bH e (bA s)=some d) (hx:yn o (fR (view s) i) d=some x):cf (.cons (.aug i o e) r) s=cf r (sset s i (.fz x)):=by
 simp only [cf,uI,h,hx,bz]
theorem yD (h:bH e (view (freeze fz s))=some d) (h2:CB (after d fz s) i [d]=some s1):cf (.cons (.app i e fz) r) s=cf r s1:=by
 simp only [cf,uI,h,h2,bz]
theorem yE (h:bH e (view (freeze fz s))=some (.lst l)) (h2:CB (freeze fz s) i l=some s1):cf (.cons (.ext i e fz) r) s=cf r s1:=by
 simp only [cf,uI,h,h2,bz,listOf]
theorem aX (h:bH e (view (freeze fz s))=some d):cf (.cons (.ret e fz) r) s=some (.rt d):=by
 simp only [cf,uI,h,bz]
theorem Ii (h:bH c (bA s)=some (.bl true)):cf (.cons (.jL c a b) r) s=(cf a s).bind fun o=>match o with|.nx s1=>cf r s1|.rt d=>some (.rt d)|.bk s1=>some (.bk s1)|.ct s1=>some (.ct s1):=by
 simp only [cf,uI,h,bz,fU]
 all_goals rfl
theorem Ij (h:bH c (bA s)=some (.bl false)):cf (.cons (.jL c a b) r) s=(cf b s).bind fun o=>match o with|.nx s1=>cf r s1|.rt d=>some (.rt d)|.bk s1=>some (.bk s1)|.ct s1=>some (.ct s1):=by
 simp only [cf,uI,h,bz,fU]
 all_goals rfl
theorem bJ (h:bH c (bA s)=some (.bl true)) (h2:cf a s=some (.rt d)):cf (.cons (.jL c a b) r) s=some (.rt d):=by
 rw [Ii h,h2];rfl
theorem jP (h:bH c (bA s)=some (.bl true)) (h2:cf a s=some (.nx s1)):cf (.cons (.jL c a b) r) s=cf r s1:=by
 rw [Ii h,h2];rfl
theorem EF (h:bH c (bA s)=some (.bl false)) (h2:cf b s=some (.nx s1)):cf (.cons (.jL c a b) r) s=cf r s1:=by
 rw [Ij h,h2];rfl
theorem aI (h:bH c (bA s)=some (.bl false)):cf (.cons (.jL c a .nil) r) s=cf r s:=by
 rw [Ij h];simp only [cf,bz]
theorem fv {t:Tg} {it:It} {ds:List D} (h:pX it (view (freeze fz s))=some ds) (h2:loop t (cf a) ds (freeze fz s)=some (.nx s1)):cf (.cons (.jM t it fz a) r) s=cf r s1:=by
 simp only [cf,uI,h,h2,bz]
theorem ue {t:Tg} {it:It} {ds:List D} (h:pX it (view (freeze fz s))=some ds) (h2:loop t (cf a) ds (freeze fz s)=some (.rt d)):cf (.cons (.jM t it fz a) r) s=some (.rt d):=by
 simp only [cf,uI,h,h2,bz]
theorem bg {n:Nat} {body:Ss} {ds:List D} (h:cf body (ds.map .fz++aH (n - ds.length) .no)=some (.rt d)):bQ n body ds=some d:=by
 simp only [bQ,h,bz]
end
noncomputable def kI {α:Type} (enc:α→List D) (pre:α→Prop) (out:α→D):List D→Option D:=fun ds=>open Classical in if h:∃x,enc x=ds∧pre x then some (out h.choose) else none
theorem bj {α:Type} {enc:α→List D} {pre:α→Prop} {out:α→D} {ds:List D} {d:D} (h:kI enc pre out ds=some d):∃x,enc x=ds∧pre x∧d=out x:=by
 unfold kI at h
 by_cases hx:∃x,enc x=ds∧pre x
 ·rw [dif_pos hx] at h
  exact ⟨hx.choose,hx.choose_spec.1,hx.choose_spec.2,(bC.inj h).symm⟩
 ·rw [dif_neg hx] at h;cases h
theorem b4 {α:Type} {enc:α→List D} {pre:α→Prop} {out:α→D} {x:α} (h:pre x) (inj:∀y,enc y=enc x→pre y→out y=out x):kI enc pre out (enc x)=some (out x):=by
 unfold kI
 have hx:∃y,enc y=enc x∧pre y:=⟨x,rfl,h⟩
 rw [dif_pos hx]
 rw [inj _ hx.choose_spec.1 hx.choose_spec.2]
end Mi
namespace Tn
open PySem Mi
noncomputable def iN (n:Nat):D:=.int n
noncomputable def iL (l:List Nat):D:=.lst (l.map iN)
noncomputable def iE (l:List (List Nat)):D:=.lst (l.map iL)
theorem cx {a b:Nat} (h:iN a=iN b):a=b:=by
 unfold iN at h;injection h with h;omega
theorem map_inj {α β:Type} {f:α→β} (hf:∀x y,f x=f y→x=y):∀{a b:List α},a.map f=b.map f→a=b
 | [],[],_=>rfl
 | [],_::_,h=>by simp at h
 | _::_,[],h=>by simp at h
 | x::a,y::b,h=>by
  rw [aO,aO] at h
  injection h with h1 h2
  rw [hf x y h1,map_inj hf h2]
theorem gg {a b:List Nat} (h:iL a=iL b):a=b:=by
 unfold iL at h;injection h with h;exact map_inj (fun _ _=>cx) h
theorem rk {a b:List (List Nat)} (h:iE a=iE b):a=b:=by
 unfold iE at h;injection h with h;exact map_inj (fun _ _=>gg) h
theorem gN:∀l:List Nat,intsOf (l.map iN)=some (l.map fun x:Nat=>(x:Int))
 | []=>rfl
 | x::l=>by
  have ih:=gN l
  rw [aO,iN,intsOf,ih];rfl
theorem GF:∀(n k:Nat),tU (k:Int) n=((aq n).map (·+k)).map iN
 | 0,k=>rfl
 | n+1,k=>by
  rw [iu,tU,aO,aO,ba]
  have ih:=GF n (k+1)
  have e:((k:Int)+1)=((k+1:Nat):Int):=by omega
  rw [e,ih]
  congr 1
  ·show D.int k=D.int ((0+k:Nat):Int)
   rw [cj]
  ·rw [ba,ba]
   apply bT
   intro a _
   show iN (a+(k+1))=iN (a+1+k)
   congr 1;omega
theorem Xs (n:Nat):tU 0 n=(aq n).map iN:=by
 have:=GF n 0
 simpa using this
theorem Xt (n:Nat):tU 1 n=(lF n).map iN:=by
 have:=GF n 1
 exact this
theorem rP {n:Nat} (h:n≤1000):itR 0 (iN n)=some ((aq n).map iN):=by
 have hz:(1000:Nat)≤sizeLine:=by decide
 have e:((n:Int) - 0).toNat=n:=by omega
 simp only [iN,itR]
 rw [if_pos ⟨by omega,by omega,by omega,by omega,by omega⟩,e,Xs]
theorem Xu {n:Nat} (h:n≤1000):Gp (.int 1) (.int ((n:Int)+1))=some ((lF n).map iN):=by
 have hz:(1000:Nat)≤sizeLine:=by decide
 have e:((n:Int)+1 - 1).toNat=n:=by omega
 simp only [Gp,itR]
 rw [if_pos ⟨by omega,by omega,by omega,by omega,by omega⟩,e,Xt]
theorem Pj {l:List Nat} {i:Nat} (h:i < l.length):RY (l.map iN) (i:Int)=some (iN (l.getD i 0)):=by
 show (l.map iN)[i]?=_
 rw [b8,au h,ak,au h];rfl
theorem jQ {l:List Nat} {i:Nat} (h:i < l.length):Gn (iL l) (iN i)=some (iN (l.getD i 0)):=Pj h
theorem qu {a b:Nat} (h:a < 1000):i9 .mul (iN a) (iN b)=some (iN (a*b)):=by
 simp only [iN,i9]
 rw [if_pos ⟨by omega,by omega⟩]
 rfl
theorem EG {a b:Nat}:i9 .lt (iN a) (iN b)=some (.bl (decide (a < b))):=by
 show some (D.bl (decide ((a:Int) < b)))=_
 congr 2;exact decide_eq_decide.mpr (by omega)
theorem jD {a b:Nat}:i9 .gt (iN a) (iN b)=some (.bl (decide (b < a))):=by
 show some (D.bl (decide ((b:Int) < a)))=_
 congr 2;exact decide_eq_decide.mpr (by omega)
theorem Uo {a b:Nat}:i9 .le (iN a) (iN b)=some (.bl (decide (a≤b))):=by
 show some (D.bl (decide ((a:Int)≤b)))=_
 congr 2;exact decide_eq_decide.mpr (by omega)
theorem Pk {a b:Nat}:i9 .ge (iN a) (iN b)=some (.bl (decide (b≤a))):=by
 show some (D.bl (decide ((b:Int)≤a)))=_
 congr 2;exact decide_eq_decide.mpr (by omega)
theorem fT {a b:Nat}:i9 .eq (iN a) (iN b)=some (.bl (decide (a=b))):=by
 show some (D.bl (decide ((a:Int)=b)))=_
 congr 2;exact decide_eq_decide.mpr (by omega)
theorem EH {a b:Nat}:i9 .ne (iN a) (iN b)=some (.bl (!decide (a=b))):=by
 show some (D.bl (!decide ((a:Int)=b)))=_
 congr 3;exact decide_eq_decide.mpr (by omega)
theorem eH {a b:Nat}:i9 .add (iN a) (iN b)=some (iN (a+b)):=rfl
theorem uf {x:Nat}:∀{l:List Nat},decide ((x:Int)∈l.map fun x:Nat=>(x:Int))=decide (x∈l)
 | []=>by simp
 | a::l=>by
  have ih:=uf (x:=x) (l:=l)
  rw [decide_eq_decide] at ih ⊢
  rw [aO,aG,aG,ih]
  constructor<;>rintro (h|h)
  ·exact .inl (by omega)
  ·exact .inr h
  ·exact .inl (by omega)
  ·exact .inr h
theorem Lz {x:Nat} {l:List Nat}:i9 .isin (iN x) (iL l)=some (.bl (decide (x∈l))):=by
 have e:i9 .isin (iN x) (iL l)=((intsOf (l.map iN)).bind fun y=>some (decide ((x:Int)∈y))).bind (fun c=>some (D.bl c)):=rfl
 rw [e,gN]
 simp only [bz,uf]
theorem yF {x:Nat} {l:List Nat}:i9 .r8 (iN x) (iL l)=some (.bl (!decide (x∈l))):=by
 have e:i9 .r8 (iN x) (iL l)=((intsOf (l.map iN)).bind fun y=>some (decide ((x:Int)∈y))).bind (fun c=>some (D.bl (!c))):=rfl
 rw [e,gN]
 simp only [bz,uf]
theorem ig {l:List Nat}:vU .len (iL l)=some (iN l.length):=by
 show some (D.int ((l.map iN).length:Nat))=_
 rw [ah];rfl
theorem vd {l:List Nat}:vU .rev (iL l)=some (iL l.reverse):=by
 show some (D.lst (l.map iN).reverse)=_
 rw [←gW];rfl
theorem mx {a b:List Nat} (h:a.length+b.length≤1000):i9 .add (iL a) (iL b)=some (iL (a++b)):=by
 have hz:(1000:Nat)≤sizeLine:=by decide
 simp only [iL,i9]
 rw [ah,ah,if_pos (by omega),←bq]
noncomputable def tD (g:ag):D:=.obj ["n","cells","clues"] [iN g.n,iL g.town,iL g.clues.flatten]
theorem LA {a b:ag} (h:tD a=tD b):a.n=b.n∧a.town=b.town∧a.clues.flatten=b.clues.flatten:=by
 unfold tD at h
 injection h with _ h
 injection h with h1 h
 injection h with h2 h
 injection h with h3 _
 exact ⟨cx h1,gg h2,gg h3⟩
theorem gL (g:ag):qo (tD g) "n" = some (iN g.n):=by
 show look _ _ _=_
 unfold look
 rw [if_pos rfl]
theorem eP (g:ag):qo (tD g) "cells" = some (iL g.town):=by
 show look _ _ _=_
 unfold look
 rw [if_neg (by decide +kernel)]
 unfold look
 rw [if_pos rfl]
theorem oG (g:ag):qo (tD g) "clues" = some (iL g.clues.flatten):=by
 show look _ _ _=_
 unfold look
 rw [if_neg (by decide +kernel)]
 unfold look
 rw [if_neg (by decide +kernel)]
 unfold look
 rw [if_pos rfl]
structure cP (g:ag):Prop where
 lo:1≤g.n
 hi:g.n≤4
 town:g.town.length=g.n*g.n
 GG:∀x∈g.town,x≤g.n
 four:g.clues.length=4
 row:∀l∈g.clues,l.length=g.n
 clue:∀l∈g.clues,∀x∈l,x≤g.n
noncomputable def rm:Ss:=(.cons (.ret (.op .lt (.var 1) (.op .mul (.fld (.var 0) "n") (.fld (.var 0) "n"))) []) .nil)
noncomputable def rn:Ss:=(.cons (.ret (.and (.cons (.op .lt (.var 1) (.gl "SIDES" (.int 4))) (.cons (.op .lt (.var 2) (.fld (.var 0) "n")) .nil))) []) .nil)
theorem EI {g:ag} (ok:cP g) (c:Nat):bQ 2 rm [tD g,iN c]=some (.bl (decide (c < g.n*g.n))):=by
 have h:=ok.hi
 exact bg (aX (bx (af rfl) (bx (cq (af rfl) (gL g)) (cq (af rfl) (gL g)) (qu (by omega))) EG))
theorem EJ {g:ag} (k i:Nat):bQ 3 rn [tD g,iN k,iN i]=some (.bl (decide (k < 4)&&decide (i < g.n))) :=
 bg (aX (vc (bx (af rfl) bZ (EG (b:=4))) fun _=>bx (af rfl) (cq (af rfl) (gL g)) EG))
end Tn
namespace Tn
open PySem Mi
theorem jR {α:Type} (f:α→Nat) (l:List α):D.lst (l.map fun y=>iN (f y))=iL (l.map f):=by
 unfold iL;rw [ba];rfl
theorem EK:∀{a b:List (List Nat)} {n:Nat},(∀l∈a,l.length=n)→(∀l∈b,l.length=n)→a.length=b.length→a.flatten=b.flatten→a=b
 | [],[],_,_,_,_,_=>rfl
 | [],_::_,_,_,_,h,_=>by simp at h
 | _::_,[],_,_,_,h,_=>by simp at h
 | x::a,y::b,n,h1,h2,h3,h4=>by
  rw [bB,bB] at h4
  have e:=List.append_inj h4 ((h1 x (by simp)).trans (h2 y (by simp)).symm)
  rw [e.1,EK (fun l hl=>h1 l (by simp [hl])) (fun l hl=>h2 l (by simp [hl])) (by simpa using h3) e.2]
theorem dQ {a b:ag} (ha:cP a) (hb:cP b) (h:tD a=tD b):a=b:=by
 obtain ⟨h1,h2,h3⟩:=LA h
 have e:a.clues=b.clues:=EK ha.row (fun l hl=>(hb.row l hl).trans h1.symm) (ha.four.trans hb.four.symm) h3
 cases a;cases b
 simp only at h1 h2 e
 subst h1 h2 e
 rfl
noncomputable def lI:Ss:=(.cons (.jL (.or (.cons (.op .eq (.var 1) (.gl "ABOVE" (.int 0))) (.cons (.op .eq (.var 1) (.gl "BELOW" (.int 2))) .nil))) (.cons (.asg 3 (.comp (.nm 4) (.pW (.var 0)) .no (.op .add (.op .mul (.var 4) (.var 0)) (.var 2))) []) .nil) (.cons (.asg 3 (.comp (.nm 5) (.pW (.var 0)) .no (.op .add (.op .mul (.var 2) (.var 0)) (.var 5))) []) .nil)) (.cons (.jL (.or (.cons (.op .eq (.var 1) (.gl "RIGHT" (.int 1))) (.cons (.op .eq (.var 1) (.gl "BELOW" (.int 2))) .nil))) (.cons (.ret (.un .rev (.var 3)) []) .nil) .nil) (.cons (.ret (.var 3) []) .nil)))
theorem oH {n:Nat} (h:n≤4):(aq n).reverse=(aq n).map fun j=>n - 1 - j:=by
 match n,h with
 | 0,_=>rfl
 | 1,_=>rfl
 | 2,_=>rfl
 | 3,_=>rfl
 | 4,_=>rfl
theorem yG {n k i:Nat} (hn:n≤4) (hi:i < 1000):bQ 6 lI [iN n,iN k,iN i]=some (iL (a7 n k i)):=by
 have cA:∀ρ:eM,ρ.length=6→fR ρ 0=some (iN n)→fR ρ 2=some (iN i)→bH (.comp (.nm 4) (.pW (.var 0)) .no (.op .add (.op .mul (.var 4) (.var 0)) (.var 2))) ρ=some (iL ((aq n).map fun y=>y*n+i)):=fun ρ hl h0 h2=>by
  refine (eG (jc (af h0) (rP (by omega))) (dD iN (fun y=>iN (y*n+i)) (aq n) fun y hy=>⟨_,rfl,kW,bx (bx (x:=iN y) (y:=iN n) (af ?_) (af ?_) (qu ?_)) (y:=iN i) (af ?_) eH⟩)).trans (by rw [jR])
  ·match ρ,hl with
   | [_,_,_,_,_,_],_=>rfl
  ·match ρ,hl with
   | [_,_,_,_,_,_],_=>exact h0
  ·have:=aT.mp hy;omega
  ·match ρ,hl with
   | [_,_,_,_,_,_],_=>exact h2
 have cB:∀ρ:eM,ρ.length=6→fR ρ 0=some (iN n)→fR ρ 2=some (iN i)→bH (.comp (.nm 5) (.pW (.var 0)) .no (.op .add (.op .mul (.var 2) (.var 0)) (.var 5))) ρ=some (iL ((aq n).map fun x=>i*n+x)):=fun ρ hl h0 h2=>by
  refine (eG (jc (af h0) (rP (by omega))) (dD iN (fun x=>iN (i*n+x)) (aq n) fun y hy=>⟨_,rfl,kW,bx (bx (x:=iN i) (y:=iN n) (af ?_) (af ?_) (qu hi)) (y:=iN y) (af ?_) eH⟩)).trans (by rw [jR])
  ·match ρ,hl with
   | [_,_,_,_,_,_],_=>exact h2
  ·match ρ,hl with
   | [_,_,_,_,_,_],_=>exact h0
  ·match ρ,hl with
   | [_,_,_,_,_,_],_=>rfl
 refine bg ?_
 have c1:∀s:List Sl,fR (bA s) 1=some (iN k)→bH (.or (.cons (.op .eq (.var 1) (.gl "ABOVE" (.int 0))) (.cons (.op .eq (.var 1) (.gl "BELOW" (.int 2))) .nil))) (bA s)=some (.bl (decide (k=0)||decide (k=2))) :=
  fun s h=>BU (bx (af h) bZ (fT (b:=0))) fun _=>bx (af h) bZ (fT (b:=2))
 have c2:∀s:List Sl,fR (bA s) 1=some (iN k)→bH (.or (.cons (.op .eq (.var 1) (.gl "RIGHT" (.int 1))) (.cons (.op .eq (.var 1) (.gl "BELOW" (.int 2))) .nil))) (bA s)=some (.bl (decide (k=1)||decide (k=2))) :=
  fun s h=>BU (bx (af h) bZ (fT (b:=1))) fun _=>bx (af h) bZ (fT (b:=2))
 have tail:∀(l:List Nat),cf (.cons (.jL (.or (.cons (.op .eq (.var 1) (.gl "RIGHT" (.int 1))) (.cons (.op .eq (.var 1) (.gl "BELOW" (.int 2))) .nil))) (.cons (.ret (.un .rev (.var 3)) []) .nil) .nil) (.cons (.ret (.var 3) []) .nil)) [.fz (iN n),.fz (iN k),.fz (iN i),.fz (iL l),.no,.no]=some (.rt (iL (if k=1∨k=2 then l.reverse else l))):=fun l=>by
  by_cases h:k=1∨k=2
  ·rw [if_pos h]
   exact bJ ((c2 _ rfl).trans (by rcases h with h|h<;>simp [h])) (aX (fV (af rfl) vd))
  ·rw [if_neg h]
   exact (aI ((c2 _ rfl).trans (by simp only [not_or] at h;simp [h.1,h.2]))).trans (aX (af rfl))
 by_cases h:k=0∨k=2
 ·refine (jP (s1:=[.fz (iN n),.fz (iN k),.fz (iN i),.fz (iL ((aq n).map fun y=>y*n+i)),.no,.no]) ((c1 _ rfl).trans (by rcases h with h|h<;>simp [h])) ((cH (cA _ rfl rfl rfl)).trans rfl)).trans ((tail _).trans ?_)
  rcases h with rfl|rfl
  ·rfl
  ·congr 3
   rw [if_pos (.inr rfl),←gW,oH hn,ba]
   rfl
 ·simp only [not_or] at h
  refine (EF (s1:=[.fz (iN n),.fz (iN k),.fz (iN i),.fz (iL ((aq n).map fun x=>i*n+x)),.no,.no]) ((c1 _ rfl).trans (by simp [h.1,h.2])) ((cH (cB _ rfl rfl rfl)).trans rfl)).trans ((tail _).trans ?_)
  congr 3
  by_cases h1:k=1
  ·subst h1
   rw [if_pos (.inl rfl),←gW,oH hn,ba]
   rfl
  ·rw [if_neg (by omega)]
   unfold a7
   apply bT
   intro j _
   match k,h,h1 with
   | k+3,_,_=>rfl
   | 0,h,_=>exact absurd rfl h.1
   | 1,_,h1=>exact absurd rfl h1
   | 2,h,_=>exact absurd rfl h.2
noncomputable def fw:List D→Option D:=kI (fun x:Nat×Nat×Nat=>[iN x.1,iN x.2.1,iN x.2.2]) (fun x=>x.1≤4∧x.2.2 < 1000) (fun x=>iL (a7 x.1 x.2.1 x.2.2))
theorem jg {n k i:Nat} (hn:n≤4) (hi:i < 1000):fw [iN n,iN k,iN i]=some (iL (a7 n k i)) :=
 b4 (x:=(n,k,i)) ⟨hn,hi⟩ fun y h _=>by
  obtain ⟨a,b,c⟩:=y
  injection h with h1 h;injection h with h2 h;injection h with h3 _
  rw [cx h1,cx h2,cx h3]
theorem Ao:∀ds d,fw ds=some d→bQ 6 lI ds=some d:=fun ds d h=>by
 obtain ⟨x,rfl,hp,rfl⟩:=bj h
 exact yG hp.1 hp.2
theorem oZ {n k i p:Nat} (hi:i < n) (hp:p∈a7 n k i):p < n*n:=by
 unfold a7 at hp
 rw [bf] at hp
 obtain ⟨j,hj,rfl⟩:=hp
 rw [aT] at hj
 have h1:∀a b:Nat,a < n→b < n→a*n+b < n*n:=fun a b ha hb=>by
  have:(a+1)*n≤n*n:=mV n ha
  rw [gE,iw] at this
  omega
 split
 ·exact h1 j i hj hi
 ·exact h1 i (n - 1 - j) hi (by omega)
 ·exact h1 (n - 1 - j) i (by omega) hi
 ·exact h1 i j hi hj
noncomputable def h7:Ss:=(.cons (.ret (.comp (.nm 3) (.lst (.call "line_cells" fw (.cons (.fld (.var 0) "n") (.cons (.var 1) (.cons (.var 2) .nil))))) .no (.ix (.fld (.var 0) "cells") (.var 3))) []) .nil)
noncomputable def dm (g:ag) (k i:Nat):List Nat:=(a7 g.n k i).map (aA g.town)
theorem wt {g:ag} {k i:Nat} (ok:cP g) (hi:i < g.n):bQ 4 h7 [tD g,iN k,iN i]=some (iL (dm g k i)):=by
 have:=ok.hi
 refine bg (aX ((eG (eT (aM (ai (cq (af rfl) (gL g)) (ai (af rfl) (ai (af rfl) ay))) (jg ok.hi (by omega))))
  (dD iN (fun p=>iN (aA g.town p)) (a7 g.n k i) fun p hp=>⟨_,rfl,kW,eA (cq (af rfl) (eP g)) (af rfl) (jQ ?_)⟩)).trans (by rw [jR];rfl)))
 rw [ok.town]
 exact oZ hi hp
noncomputable def cy:List D→Option D:=kI (fun x:ag×Nat×Nat=>[tD x.1,iN x.2.1,iN x.2.2]) (fun x=>cP x.1∧x.2.2 < x.1.n) (fun x=>iL (dm x.1 x.2.1 x.2.2))
theorem eI {g:ag} {k i:Nat} (ok:cP g) (hi:i < g.n):cy [tD g,iN k,iN i]=some (iL (dm g k i)) :=
 b4 (x:=(g,k,i)) ⟨ok,hi⟩ fun y h hy=>by
  obtain ⟨a,b,c⟩:=y
  injection h with h1 h;injection h with h2 h;injection h with h3 _
  rw [dQ hy.1 ok h1,cx h2,cx h3]
theorem yH:∀ds d,cy ds=some d→bQ 4 h7 ds=some d:=fun ds d h=>by
 obtain ⟨x,rfl,hp,rfl⟩:=bj h
 exact wt hp.1 hp.2
end Tn
namespace Tn
open PySem Mi
theorem jh:∀{c:List (List Nat)} {n k i:Nat},(∀l∈c,l.length=n)→k < c.length→i < n→k*n+i < c.flatten.length∧c.flatten.getD (k*n+i) 0=(c.getD k []).getD i 0
 | [],_,_,_,_,h,_=>by simp at h
 | x::c,n,0,i,hc,_,hi=>by
  have hx:x.length=n:=hc x (by simp)
  rw [bB,kY,cj]
  refine ⟨by rw [ax];omega,?_⟩
  rw [ak,jz (by omega),←ak]
  rfl
 | x::c,n,k+1,i,hc,hk,hi=>by
  have hx:x.length=n:=hc x (by simp)
  obtain ⟨h1,h2⟩:=jh (c:=c) (n:=n) (k:=k) (i:=i) (fun l hl=>hc l (by simp [hl])) (by simpa using hk) hi
  have e:(k+1)*n+i=x.length+(k*n+i):=by rw [gE,iw,hx];omega
  rw [bB,e]
  refine ⟨by rw [ax];omega,?_⟩
  rw [ak,jf (by omega),hJ,←ak,h2]
  rfl
noncomputable def m_:Ss:=(.cons (.ret (.ix (.fld (.var 0) "clues") (.op .add (.op .mul (.var 1) (.fld (.var 0) "n")) (.var 2))) []) .nil)
theorem Aq {g:ag} {k i:Nat} (ok:cP g) (hk:k < 4) (hi:i < g.n):bQ 3 m_ [tD g,iN k,iN i]=some (iN (a8 g.clues k i)):=by
 obtain ⟨h1,h2⟩:=jh ok.row (show k < g.clues.length by rw [ok.four];exact hk) hi
 refine bg (aX (eA (cq (af rfl) (oG g)) (bx (bx (af rfl) (cq (af rfl) (gL g)) (qu (by omega))) (af rfl) eH) ((jQ h1).trans ?_)))
 rw [h2];rfl
noncomputable def cb:List D→Option D:=kI (fun x:ag×Nat×Nat=>[tD x.1,iN x.2.1,iN x.2.2]) (fun x=>cP x.1∧x.2.1 < 4∧x.2.2 < x.1.n) (fun x=>iN (a8 x.1.clues x.2.1 x.2.2))
theorem eB {g:ag} {k i:Nat} (ok:cP g) (hk:k < 4) (hi:i < g.n):cb [tD g,iN k,iN i]=some (iN (a8 g.clues k i)) :=
 b4 (x:=(g,k,i)) ⟨ok,hk,hi⟩ fun y h hy=>by
  obtain ⟨a,b,c⟩:=y
  injection h with h1 h;injection h with h2 h;injection h with h3 _
  rw [dQ hy.1 ok h1,cx h2,cx h3]
theorem CK:∀ds d,cb ds=some d→bQ 3 m_ ds=some d:=fun ds d h=>by
 obtain ⟨x,rfl,hp,rfl⟩:=bj h
 exact Aq hp.1 hp.2.1 hp.2.2
noncomputable def gB:Ss:=(.cons (.ret (.un .len (.comp (.nm 1) (.lst (.fld (.var 0) "cells")) (.yes (.op .gt (.var 1) (.int 0))) (.var 1))) []) .nil)
theorem EL (l:List Nat):(l.filter fun x=>decide (0 < x)).length=aD l:=by
 unfold aD
 congr 1
 apply cU
 intro x _
 cases x<;>rfl
theorem ve {g:ag}:bQ 2 gB [tD g]=some (iN (aD g.town)):=by
 refine bg (aX (fV ((eG (eT (cq (af rfl) (eP g))) (iD iN (fun x=>decide (0 < x)) iN g.town fun x hx=>⟨_,rfl,oX (bx (af rfl) a_ (jD (b:=0))),fun _=>af rfl⟩)).trans rfl) ?_))
 exact (ig (l:=g.town.filter fun x=>decide (0 < x))).trans (by rw [EL])
noncomputable def fM:List D→Option D:=kI (fun x:ag=>[tD x]) (fun x=>True) (fun x=>iN (aD x.town))
theorem k8 {g:ag}:fM [tD g]=some (iN (aD g.town)) :=
 b4 (x:=g) trivial fun y h hy=>by
  injection h with h1 h
  rw [(LA h1).2.1]
theorem wu:∀ds d,fM ds=some d→bQ 2 gB ds=some d:=fun ds d h=>by
 obtain ⟨x,rfl,hp,rfl⟩:=bj h
 exact ve
noncomputable def k9:Ss:=(.cons (.jL (.op .gt (.var 3) (.var 1)) (.cons (.asg 1 (.var 3) []) (.cons (.aug 2 .add (.int 1)) .nil)) .nil) .nil)
noncomputable def lJ:Ss:=(.cons (.asg 1 (.int 0) []) (.cons (.asg 2 (.int 0) []) (.cons (.jM (.nm 3) (.lst (.var 0)) [] k9) (.cons (.ret (.var 2) []) .nil))))
theorem vf:∀(l:List Nat) (h m:Nat),(l.foldl (fun (b:Nat×Nat) a=>if b.1 < a then (a,b.2+1) else b) (h,m)).2=m+dY h l
 | [],h,m=>rfl
 | x::l,h,m=>by
  rw [b9,dY]
  by_cases hx:h < x
  ·simp only [hx,if_true]
   rw [vf l x (m+1)];omega
  ·simp only [hx,if_false]
   rw [vf l h m]
theorem yI (l:List Nat):bQ 4 lJ [iL l]=some (iN (dY 0 l)):=by
 obtain ⟨s',h,x',rfl⟩:=dE (t:=.nm 3) (body:=cf k9) iN (fun (b:Nat×Nat) a=>if b.1 < a then (a,b.2+1) else b)
  (fun b _ s=>∃x,s=[.fz (iL l),.fz (iN b.1),.fz (iN b.2),x])
  (fun b a r s ⟨x,hs⟩=>by
   subst hs
   refine ⟨_,[.fz (iL l),.fz (iN (if b.1 < a then (a,b.2+1) else b).1),.fz (iN (if b.1 < a then (a,b.2+1) else b).2),.fz (iN a)],rfl,?_,_,rfl⟩
   by_cases ha:b.1 < a
   ·rw [if_pos ha]
    exact (jP ((bx (af rfl) (af rfl) jD).trans (by rw [decide_eq_true ha])) ((cH (af rfl)).trans ((sU a_ rfl).trans rfl))).trans rfl
   ·rw [if_neg ha]
    exact (aI ((bx (af rfl) (af rfl) jD).trans (by rw [decide_eq_false ha]))).trans rfl) l (0,0) [.fz (iL l),.fz (iN 0),.fz (iN 0),.no] ⟨.no,rfl⟩
 have e:=vf l 0 0
 rw [cj] at e
 rw [e] at h
 exact bg ((cH a_).trans ((cH a_).trans ((fv (eT (af rfl)) h).trans (aX (af rfl)))))
noncomputable def di:List D→Option D:=kI (fun x:List Nat=>[iL x]) (fun x=>True) (fun x=>iN (dY 0 x))
theorem h8 (l:List Nat):di [iL l]=some (iN (dY 0 l)) :=
 b4 (x:=l) trivial fun y h hy=>by
  injection h with h1 h
  rw [gg h1]
theorem Ar:∀ds d,di ds=some d→bQ 4 lJ ds=some d:=fun ds d h=>by
 obtain ⟨x,rfl,hp,rfl⟩:=bj h
 exact yI x
noncomputable def o8:Ss:=(.cons (.aug 1 .bor (.op .shl (.int 1) (.op .sub (.var 2) (.int 1)))) .nil)
noncomputable def rp:Ss:=(.cons (.asg 1 (.int 0) []) (.cons (.jM (.nm 2) (.lst (.var 0)) [] o8) (.cons (.ret (.var 1) []) .nil)))
theorem LB (s k:Nat):(if s.testBit k then s else s+2 ^ k)=s ||| 2 ^ k:=by
 by_cases h:s.testBit k=true
 ·rw [if_pos h]
  apply uH
  intro j
  rw [uG,gU]
  by_cases hj:k=j
  ·subst hj;simp [h]
  ·simp [hj]
 ·rw [if_neg h]
  have h0:s &&& 2 ^ k=0:=Wy.and_zero.mpr fun j ⟨h1,h2⟩=>by
   rw [gU,decide_eq_true_eq] at h2
   subst h2
   exact h h1
  have e:=PyProof.Rows.nat_or_add_and s (2 ^ k)
  omega
theorem Ik {k:Nat} (h:k≤1000):i9 .shl (.int 1) (.int (k:Int))=some (iN (2 ^ k)):=by
 simp only [i9]
 rw [if_pos ⟨by omega,by omega,by decide⟩]
 have e:(1:Int)*2 ^ ((k:Int)).toNat=((2 ^ k:Nat):Int):=by
  rw [Int.one_mul,ja,PyProof.Rows.two_pow_cast]
 rw [e];rfl
theorem LC {a b:Nat}:yn .bor (some (iN a)) (iN b)=some (iN (a ||| b)):=by
 show some (D.int (Builtin.bitOr (a:Int) b))=_
 rw [Bits.Ei (by omega) (by omega)];rfl
theorem EM (l:List Nat) (hl:∀h∈l,1≤h∧h≤1000):bQ 3 rp [iL l]=some (iN (ly l)):=by
 obtain ⟨s',h,_,x',rfl⟩:=dE (t:=.nm 2) (body:=cf o8) iN (fun (s:Nat) h=>if s.testBit (h - 1) then s else s+2 ^ (h - 1))
  (fun b r s=>(∀h∈r,1≤h∧h≤1000)∧∃x,s=[.fz (iL l),.fz (iN b),x])
  (fun b a r s ⟨hr,x,hs⟩=>by
   subst hs
   obtain ⟨h1,h2⟩:=hr a (by simp)
   refine ⟨_,[.fz (iL l),.fz (iN (b ||| 2 ^ (a - 1))),.fz (iN a)],rfl,?_,fun h hh=>hr h (by simp [hh]),_,by rw [LB]⟩
   have e:(a:Int) - 1=((a - 1:Nat):Int):=by omega
   exact (sU (bx a_ ((bx (af rfl) a_ rfl).trans (by rw [e])) (Ik (by omega))) LC).trans rfl) l 0 [.fz (iL l),.fz (iN 0),.no] ⟨hl,.no,rfl⟩
 exact bg ((cH a_).trans ((fv (eT (af rfl)) h).trans (aX (af rfl))))
noncomputable def oI:List D→Option D:=kI (fun x:List Nat=>[iL x]) (fun x=>∀h∈x,1≤h∧h≤1000) (fun x=>iN (ly x))
theorem yJ {l:List Nat} (hl:∀h∈l,1≤h∧h≤1000):oI [iL l]=some (iN (ly l)) :=
 b4 (x:=l) hl fun y h hy=>by
  injection h with h1 h
  rw [gg h1]
theorem GH:∀ds d,oI ds=some d→bQ 3 rp ds=some d:=fun ds d h=>by
 obtain ⟨x,rfl,hp,rfl⟩:=bj h
 exact EM x hp
end Tn
namespace Tn
open PySem Mi
noncomputable def v8:Ss:=(.cons (.ext 3 (.comp (.nm 5) (.En (.int 1) (.op .add (.var 0) (.int 1))) (.yes (.op .r8 (.var 5) (.var 4))) (.op .add (.var 4) (.lst (.cons (.var 5) .nil)))) []) .nil)
noncomputable def v9:Ss:=(.cons (.own 3 (.lst .nil) []) (.cons (.jM (.nm 4) (.lst (.var 1)) [] v8) (.cons (.asg 1 (.var 3) [3]) .nil)))
noncomputable def kX:Ss:=(.cons (.asg 1 (.lst (.cons (.lst .nil) .nil)) []) (.cons (.jM (.nm 2) (.pW (.var 0)) [] v9) (.cons (.ret (.var 1) []) .nil)))
noncomputable def perms (n:Nat):List (List Nat):=Kh321.perms n (lF n)
theorem EO:bQ 6 kX [iN 1]=some (iE (perms 1)):=by rfl
theorem ER:bQ 6 kX [iN 2]=some (iE (perms 2)):=by rfl
theorem ES:bQ 6 kX [iN 3]=some (iE (perms 3)):=by rfl
theorem ET:bQ 6 kX [iN 4]=some (iE (perms 4)):=by rfl
theorem GI {n:Nat} (h:1≤n) (h4:n≤4):bQ 6 kX [iN n]=some (iE (perms n)):=by
 match n,h,h4 with
 | 1,_,_=>exact EO
 | 2,_,_=>exact ER
 | 3,_,_=>exact ES
 | 4,_,_=>exact ET
noncomputable def ug:List D→Option D:=kI (fun x:Nat=>[iN x]) (fun x=>1≤x∧x≤4) (fun x=>iE (perms x))
theorem JH {n:Nat} (h:1≤n) (h4:n≤4):ug [iN n]=some (iE (perms n)) :=
 b4 (x:=n) ⟨h,h4⟩ fun y h hy=>by
  injection h with h1 h
  rw [cx h1]
theorem JI:∀ds d,ug ds=some d→bQ 6 kX ds=some d:=fun ds d h=>by
 obtain ⟨x,rfl,hp,rfl⟩:=bj h
 exact GI hp.1 hp.2
theorem LD {n:Nat} (h:1≤n) (h4:n≤4):∀r∈perms n,r.length=n∧∀x∈r,1≤x∧x≤n:=by
 match n,h,h4 with
 | 1,_,_=>decide
 | 2,_,_=>decide
 | 3,_,_=>decide
 | 4,_,_=>decide
theorem JJ {n:Nat} (h:1≤n) (h4:n≤4):(perms n).length≤24:=by
 match n,h,h4 with
 | 1,_,_=>decide
 | 2,_,_=>decide
 | 3,_,_=>decide
 | 4,_,_=>decide
noncomputable def sV:Ss:=(.cons (.jL (.and (.cons (.op .gt (.var 3) (.int 0)) (.cons (.op .ne (.var 3) (.var 2)) .nil))) (.cons (.ret (.bl false) []) .nil) .nil) .nil)
noncomputable def xK:Ss:=(.cons (.jM (.tp [2,3]) (.zip (.var 0) (.var 1)) [] sV) (.cons (.ret (.bl true) []) .nil))
theorem LF:∀(a b:List Nat),sL (a.map iN) (b.map iN)=(a.zip b).map fun x=>.tup [iN x.1,iN x.2]
 | [],_=>rfl
 | _::_,[]=>rfl
 | x::a,y::b=>by
  rw [aO,aO,sL,LF a b,wg,aO]
noncomputable def vg (old l:List Nat):Bool:=(old.zip l).all fun x=>x.1 == 0||x.1 == x.2
theorem JK (h t:List Nat):((h.zip t).findSome? fun x=>if (decide (0 < x.2)&&!decide (x.2=x.1))=true then some (D.bl false) else none)=if vg t h=true then none else some (D.bl false):=by
 induction h generalizing t with
 | nil=>cases t<;>rfl
 | cons a h ih =>
  cases t with
  | nil=>rfl
  | cons b t =>
   have ih:=ih t
   unfold vg at ih ⊢
   rw [wg,c6,wg,dk,ih]
   by_cases hb:b=0
   ·subst hb
    rfl
   ·have hp:0 < b:=by omega
    by_cases EA:b=a
    ·subst EA
     have e:(b == 0||b == b)=true:=by rw [beq_self_eq_true,Bool.or_true]
     rw [e,jK]
     simp [hp]
    ·simp [hp,EA,hb]
theorem JL (h t:List Nat):bQ 4 xK [iL h,iL t]=some (.bl (vg t h)):=by
 have key:=rj (t:=.tp [2,3]) (body:=cf sV) (fun x:Nat×Nat=>.tup [iN x.1,iN x.2]) (fun s=>∃x y,s=[.fz (iL h),.fz (iL t),x,y])
  (fun x=>if (decide (0 < x.2)&&!decide (x.2=x.1))=true then some (D.bl false) else none) (h.zip t) (by
   rintro s ⟨x,y,rfl⟩ a ha
   refine ⟨_,rfl,?_⟩
   have ec:bH (.and (.cons (.op .gt (.var 3) (.int 0)) (.cons (.op .ne (.var 3) (.var 2)) .nil))) (bA [.fz (iL h),.fz (iL t),.fz (iN a.1),.fz (iN a.2)])=some (.bl (decide (0 < a.2)&&!decide (a.2=a.1))) :=
    vc (bx (af rfl) a_ (jD (b:=0))) fun _=>bx (af rfl) (af rfl) EH
   by_cases hc:(decide (0 < a.2)&&!decide (a.2=a.1))=true
   ·rw [if_pos hc]
    rw [hc] at ec
    exact bJ ec (aX JG)
   ·rw [if_neg hc]
    rw [qb] at hc
    rw [hc] at ec
    exact ⟨_,(aI ec).trans rfl,_,_,rfl⟩) [.fz (iL h),.fz (iL t),.no,.no] ⟨.no,.no,rfl⟩
 rw [JK] at key
 have ei:pX (.zip (.var 0) (.var 1)) (view (freeze [] [.fz (iL h),.fz (iL t),.no,.no]))=some ((h.zip t).map fun x=>.tup [iN x.1,iN x.2]):=(Q8 (af rfl) (af rfl)).trans (by rw [LF])
 cases hh:vg t h with
 | true =>
  rw [hh,if_pos rfl] at key
  obtain ⟨s',h1,x,y,rfl⟩:=key
  exact bg ((fv ei h1).trans (aX JG))
 | false =>
  rw [hh,if_neg aR] at key
  exact bg (ue ei key)
noncomputable def xM:List D→Option D:=kI (fun x:List Nat×List Nat=>[iL x.1,iL x.2]) (fun x=>True) (fun x=>.bl (vg x.2 x.1))
theorem LG (h t:List Nat):xM [iL h,iL t]=some (.bl (vg t h)) :=
 b4 (x:=(h,t)) trivial fun y e hy=>by
  obtain ⟨a,b⟩:=y
  injection e with h1 e;injection e with h2 e
  rw [gg h1,gg h2]
theorem LH:∀ds d,xM ds=some d→bQ 4 xK ds=some d:=fun ds d h=>by
 obtain ⟨x,rfl,hp,rfl⟩:=bj h
 exact JL x.1 x.2
noncomputable def CL:Ss:=(.cons (.jL (.and (.cons (.op .gt (.var 1) (.int 0)) (.cons (.op .ne (.call "count_seen" di (.cons (.var 0) .nil)) (.var 1)) .nil))) (.cons (.ret (.bl false) []) .nil) .nil) (.cons (.ret (.or (.cons (.op .eq (.var 2) (.int 0)) (.cons (.op .eq (.call "count_seen" di (.cons (.un .rev (.var 0)) .nil)) (.var 2)) .nil))) []) .nil))
noncomputable def v_ (l:List Nat) (first last:Nat):Bool:=(first == 0||dY 0 l == first)&&(last == 0||dY 0 l.reverse == last)
theorem LI (l:List Nat) (a b:Nat):bQ 3 CL [iL l,iN a,iN b]=some (.bl (v_ l a b)):=by
 have ec:bH (.and (.cons (.op .gt (.var 1) (.int 0)) (.cons (.op .ne (.call "count_seen" di (.cons (.var 0) .nil)) (.var 1)) .nil))) (bA [.fz (iL l),.fz (iN a),.fz (iN b)])=some (.bl (decide (0 < a)&&!decide (dY 0 l=a))) :=
  vc (bx (af rfl) a_ (jD (b:=0))) fun _=>bx (aM (ai (af rfl) ay) (h8 l)) (af rfl) EH
 have e2:bH (.or (.cons (.op .eq (.var 2) (.int 0)) (.cons (.op .eq (.call "count_seen" di (.cons (.un .rev (.var 0)) .nil)) (.var 2)) .nil))) (view (freeze [] [.fz (iL l),.fz (iN a),.fz (iN b)]))=some (.bl (decide (b=0)||decide (dY 0 l.reverse=b))) :=
  BU (bx (af rfl) a_ (fT (b:=0))) fun _=>bx (aM (ai (fV (af rfl) vd) ay) (h8 l.reverse)) (af rfl) fT
 refine bg ?_
 by_cases hc:(decide (0 < a)&&!decide (dY 0 l=a))=true
 ·rw [hc] at ec
  refine (bJ ec (aX JG)).trans ?_
  rw [aj,decide_eq_true_eq,fA,decide_eq_false_iff_not] at hc
  have h0:¬a=0:=by omega
  simp [v_,h0,hc.2]
 ·rw [qb] at hc
  rw [hc] at ec
  refine (aI ec).trans ((aX e2).trans ?_)
  rw [lz,decide_eq_false_iff_not,Bool.not_eq_false',decide_eq_true_eq] at hc
  congr 3
  unfold v_
  have:(a == 0||dY 0 l == a)=true:=by
   rcases hc with h|h
   ·have:a=0:=by omega
    simp [this]
   ·simp [h]
  rw [this,jK]
  rfl
noncomputable def vh:List D→Option D:=kI (fun x:List Nat×Nat×Nat=>[iL x.1,iN x.2.1,iN x.2.2]) (fun x=>True) (fun x=>.bl (v_ x.1 x.2.1 x.2.2))
theorem Il (l:List Nat) (a b:Nat):vh [iL l,iN a,iN b]=some (.bl (v_ l a b)) :=
 b4 (x:=(l,a,b)) trivial fun y e hy=>by
  obtain ⟨p,q,r⟩:=y
  injection e with h1 e;injection e with h2 e;injection e with h3 e
  rw [gg h1,cx h2,cx h3]
theorem N8:∀ds d,vh ds=some d→bQ 3 CL ds=some d:=fun ds d h=>by
 obtain ⟨x,rfl,hp,rfl⟩:=bj h
 exact LI x.1 x.2.1 x.2.2
theorem jw (g:ag) (k i:Nat):(dm g k i).length=g.n:=by
 unfold dm a7
 rw [ah,ah,aQ]
noncomputable def jH (g:ag) (k i:Nat):List (List Nat):=gT g.n g.town g.clues k i
theorem Im (g:ag) (k i:Nat):jH g k i=(perms (dm g k i).length).filter (Kh321.goes (dm g k i) (a8 g.clues k i) (a8 g.clues (Kh321.across k) i)):=by
 rw [jw];rfl
noncomputable def ng:Ss:=(.cons (.asg 3 (.call "line_towers" cy (.cons (.var 0) (.cons (.var 1) (.cons (.var 2) .nil)))) []) (.cons (.asg 4 (.call "line_clue" cb (.cons (.var 0) (.cons (.var 1) (.cons (.var 2) .nil)))) []) (.cons (.asg 5 (.call "line_clue" cb (.cons (.var 0) (.cons (.op .mod (.op .add (.var 1) (.int 2)) (.gl "SIDES" (.int 4))) (.cons (.var 2) .nil)))) []) (.cons (.ret (.comp (.nm 6) (.lst (.call "orders" ug (.cons (.fld (.var 0) "n") .nil))) (.yes (.and (.cons (.call "holds" xM (.cons (.var 6) (.cons (.var 3) .nil))) (.cons (.call "fits" vh (.cons (.var 6) (.cons (.var 4) (.cons (.var 5) .nil)))) .nil)))) (.var 6)) []) .nil))))
theorem As {g:ag} {k i:Nat} (ok:cP g) (hk:k < 4) (hi:i < g.n):bQ 7 ng [tD g,iN k,iN i]=some (iE (jH g k i)):=by
 have hm:(k+2) % 4 < 4:=xu _ (by decide)
 have em:i9 .mod (iN (k+2)) (.int 4)=some (iN ((k+2) % 4)):=by
  show (if (0:Int) < 4 then some (D.int (((k+2:Nat):Int) % 4)) else none)=_
  rw [if_pos (by decide)]
  rfl
 refine bg ((cH (aM (ai (af rfl) (ai (af rfl) (ai (af rfl) ay))) (eI ok hi))).trans ((cH (aM (ai (af rfl) (ai (af rfl) (ai (af rfl) ay))) (eB ok hk hi))).trans ((cH (aM (ai (af rfl) (ai (bx (bx (af rfl) a_ (eH (b:=2))) bZ em) (ai (af rfl) ay))) (eB ok hm hi))).trans (aX ((eG (eT (aM (ai (cq (af rfl) (gL g)) ay) (JH ok.lo ok.hi))) (iD iL (Kh321.goes (dm g k i) (a8 g.clues k i) (a8 g.clues (Kh321.across k) i)) iL (perms g.n) fun x hx=>⟨_,rfl,?_,fun _=>af rfl⟩)).trans rfl)))))
 exact (oX (vc (aM (ai (af rfl) (ai (af rfl) ay)) (LG x (dm g k i))) fun _=>aM (ai (af rfl) (ai (af rfl) (ai (af rfl) ay))) (Il x (a8 g.clues k i) (a8 g.clues ((k+2) % 4) i)))).trans rfl
noncomputable def iF:List D→Option D:=kI (fun x:ag×Nat×Nat=>[tD x.1,iN x.2.1,iN x.2.2]) (fun x=>cP x.1∧x.2.1 < 4∧x.2.2 < x.1.n) (fun x=>iE (jH x.1 x.2.1 x.2.2))
theorem o9 {g:ag} {k i:Nat} (ok:cP g) (hk:k < 4) (hi:i < g.n):iF [tD g,iN k,iN i]=some (iE (jH g k i)) :=
 b4 (x:=(g,k,i)) ⟨ok,hk,hi⟩ fun y h hy=>by
  obtain ⟨a,b,c⟩:=y
  injection h with h1 h;injection h with h2 h;injection h with h3 _
  rw [dQ hy.1 ok h1,cx h2,cx h3]
theorem CM:∀ds d,iF ds=some d→bQ 7 ng ds=some d:=fun ds d h=>by
 obtain ⟨x,rfl,hp,rfl⟩:=bj h
 exact As hp.1 hp.2.1 hp.2.2
theorem uh {g:ag} (ok:cP g) {k i:Nat}:(∀r∈jH g k i,Wy.Row g.n r)∧(jH g k i).length≤24:=by
 rw [Im,jw]
 refine ⟨fun r hr=>LD ok.lo ok.hi r (cN.mp hr).1,aP (gc _ _) (JJ ok.lo ok.hi)⟩
end Tn
namespace Tn
open PySem Mi
theorem GJ {n i:Nat} (h1:1≤n) (h4:n≤4) (hi:i < n):sliceRange ((min i (n*n):Nat):Int) ((n*n:Nat):Int) (n:Int)=a7 n 0 i:=by
 match n,i,h1,h4,hi with
 | 1,0,_,_,_=>rfl
 | 2,0,_,_,_=>rfl
 | 2,1,_,_,_=>rfl
 | 3,0,_,_,_=>rfl
 | 3,1,_,_,_=>rfl
 | 3,2,_,_,_=>rfl
 | 4,0,_,_,_=>rfl
 | 4,1,_,_,_=>rfl
 | 4,2,_,_,_=>rfl
 | 4,3,_,_,_=>rfl
theorem EU {w:List Nat}:∀{l:List Nat},(∀p∈l,p < w.length)→(l.filterMap fun j=>(w.map iN)[j]?)=(l.map (aA w)).map iN
 | [],_=>rfl
 | p::l,h=>by
  have hp:=h p (by simp)
  rw [d_,b8,au hp,aO,aO,EU fun q hq=>h q (by simp [hq])]
  have:aA w p=w[p]:=by
   unfold aA
   rw [ak,au hp];rfl
  rw [this];rfl
theorem N9 {w:List Nat} {n i:Nat} (h1:1≤n) (h4:n≤4) (hi:i < n) (hw:w.length=n*n):Eo (iL w) (iN i) (iN n)=some (iL ((a7 n 0 i).map (aA w))):=by
 have hz:(1000:Nat)≤sizeLine:=by decide
 have e:pick (w.map iN) i n=((a7 n 0 i).map (aA w)).map iN:=by
  unfold pick
  rw [ah,hw,GJ h1 h4 hi]
  exact EU fun p hp=>by rw [hw];exact oZ hi hp
 have hl:(a7 n 0 i).length=n:=by unfold a7;rw [ah,aQ]
 show (if 0 < n∧(pick (w.map iN) i n).length≤sizeLine then some (D.lst (pick (w.map iN) i n)) else none)=_
 rw [e,if_pos ⟨by omega,by rw [ah,ah,hl];omega⟩]
 rfl
noncomputable def ku:Ss:=(.cons (.jL (.not (.call "fits" vh (.cons (.step (.var 1) (.var 3) (.var 2)) (.cons (.call "line_clue" cb (.cons (.var 0) (.cons (.gl "ABOVE" (.int 0)) (.cons (.var 3) .nil)))) (.cons (.call "line_clue" cb (.cons (.var 0) (.cons (.gl "BELOW" (.int 2)) (.cons (.var 3) .nil)))) .nil))))) (.cons (.ret (.bl false) []) .nil) .nil) .nil)
noncomputable def kJ:Ss:=(.cons (.asg 2 (.fld (.var 0) "n") []) (.cons (.jM (.nm 3) (.pW (.var 2)) [] ku) (.cons (.ret (.bl true) []) .nil)))
noncomputable def CN (g:ag) (w:List Nat) (i:Nat):Bool:=v_ ((a7 g.n 0 i).map (aA w)) (a8 g.clues 0 i) (a8 g.clues 2 i)
theorem EV {α:Type} (p:α→Bool) (d:D):∀l:List α,(l.findSome? fun a=>if p a=true then none else some d)=if l.all p=true then none else some d
 | []=>rfl
 | a::l=>by
  rw [c6,dk,EV p d l]
  cases h:p a<;>rfl
theorem wx {g:ag} {w:List Nat} (ok:cP g) (hw:w.length=g.n*g.n):bQ 4 kJ [tD g,iL w]=some (.bl ((aq g.n).all (CN g w))):=by
 have hn:=ok.hi
 have key:=rj (t:=.nm 3) (body:=cf ku) iN (fun s=>∃x,s=[.fz (tD g),.fz (iL w),.fz (iN g.n),x])
  (fun i=>if CN g w i=true then none else some (D.bl false)) (aq g.n) (by
   rintro s ⟨x,rfl⟩ i hi
   rw [aT] at hi
   refine ⟨_,rfl,?_⟩
   have ec:bH (.not (.call "fits" vh (.cons (.step (.var 1) (.var 3) (.var 2)) (.cons (.call "line_clue" cb (.cons (.var 0) (.cons (.gl "ABOVE" (.int 0)) (.cons (.var 3) .nil)))) (.cons (.call "line_clue" cb (.cons (.var 0) (.cons (.gl "BELOW" (.int 2)) (.cons (.var 3) .nil)))) .nil))))) (bA [.fz (tD g),.fz (iL w),.fz (iN g.n),.fz (iN i)])=some (.bl !(CN g w i)) :=
    v7 (aM (ai (Q6 (af rfl) (af rfl) (af rfl) (N9 ok.lo ok.hi hi hw)) (ai (aM (ai (af rfl) (ai bZ (ai (af rfl) ay))) (eB (k:=0) ok (by decide) hi)) (ai (aM (ai (af rfl) (ai bZ (ai (af rfl) ay))) (eB (k:=2) ok (by decide) hi)) ay))) (Il _ _ _))
   cases hc:CN g w i with
   | true =>
    rw [hc] at ec
    exact ⟨_,(aI ec).trans rfl,_,rfl⟩
   | false =>
    rw [hc] at ec
    exact bJ ec (aX JG)) [.fz (tD g),.fz (iL w),.fz (iN g.n),.no] ⟨.no,rfl⟩
 rw [EV] at key
 have ei:pX (.pW (.var 2)) (view (freeze [] [.fz (tD g),.fz (iL w),.fz (iN g.n),.no]))=some ((aq g.n).map iN):=jc (af rfl) (rP (by omega))
 cases hh:(aq g.n).all (CN g w) with
 | true =>
  rw [hh,if_pos rfl] at key
  obtain ⟨s',h1,x,rfl⟩:=key
  exact bg ((cH (cq (af rfl) (gL g))).trans ((fv ei h1).trans (aX JG)))
 | false =>
  rw [hh,if_neg aR] at key
  exact bg ((cH (cq (af rfl) (gL g))).trans (ue ei key))
noncomputable def ji:List D→Option D:=kI (fun x:ag×List Nat=>[tD x.1,iL x.2]) (fun x=>cP x.1∧x.2.length=x.1.n*x.1.n) (fun x=>.bl ((aq x.1.n).all (CN x.1 x.2)))
theorem yK {g:ag} {w:List Nat} (ok:cP g) (hw:w.length=g.n*g.n):ji [tD g,iL w]=some (.bl ((aq g.n).all (CN g w))) :=
 b4 (x:=(g,w)) ⟨ok,hw⟩ fun y h hy=>by
  obtain ⟨a,b⟩:=y
  injection h with h1 h;injection h with h2 h
  rw [dQ hy.1 ok h1,gg h2]
theorem yL:∀ds d,ji ds=some d→bQ 4 kJ ds=some d:=fun ds d h=>by
 obtain ⟨x,rfl,hp,rfl⟩:=bj h
 exact wx hp.1 hp.2
theorem LJ {n i:Nat} (h4:n≤4):a7 n 2 i=(a7 n 0 i).reverse:=by
 unfold a7
 rw [←gW,oH h4,ba];rfl
theorem N_ {g:ag} (ok:cP g) (w:List Nat):(aq g.n).all (CN g w)=uJ g.n g.clues w:=by
 unfold uJ
 congr 1
 funext i
 unfold CN v_ dC
 rw [LJ ok.hi,gW]
noncomputable def jS:Ss:=(.cons (.aug 1 .bor (.op .shl (.int 1) (.op .sub (.op .add (.op .mul (.var 2) (.un .len (.var 0))) (.var 3)) (.int 1)))) .nil)
noncomputable def jT:Ss:=(.cons (.asg 1 (.int 0) []) (.cons (.jM (.tp [2,3]) (.enum (.var 0)) [] jS) (.cons (.ret (.var 1) []) .nil)))
theorem ui:∀(l:List Nat) (k:Nat),oB k (l.map iN)=(l.zipIdx k).map fun p=>.tup [iN p.2,iN p.1]
 | [],_=>rfl
 | x::l,k=>by
  rw [aO,oB,ui l (k+1),qc,aO];rfl
theorem BV (n:Nat):∀(r:List Nat) (x m:Nat),(r.zipIdx x).foldl (fun m p=>m ||| 2 ^ (p.2*n+p.1 - 1)) m=Wy.markFrom n x r m
 | [],_,_=>rfl
 | h::r,x,m=>by
  rw [qc,b9,BV n r (x+1),Wy.markFrom]
theorem LK {n:Nat}:∀{r:List Nat} {x:Nat},(∀h∈r,1≤h∧h≤n)→x+r.length≤n→∀p∈r.zipIdx x,(1≤p.1∧p.1≤n)∧p.2 < n
 | [],_,_,_,p,hp=>by simp at hp
 | h::r,x,h1,h2,p,hp=>by
  rw [qc,aG] at hp
  rcases hp with rfl|hp
  ·exact ⟨h1 h (by simp),by simp at h2;show x < n;omega⟩
  ·exact LK (fun g hg=>h1 g (by simp [hg])) (by simp at h2;omega) p hp
theorem vi {n:Nat} {r:List Nat} (h4:n≤4) (hr:Wy.Row n r):bQ 4 jT [iL r]=some (iN (Wy.mark n r)):=by
 obtain ⟨s',h,_,x,y,rfl⟩:=dE (t:=.tp [2,3]) (body:=cf jS) (fun p:Nat×Nat=>.tup [iN p.2,iN p.1]) (fun (m:Nat) p=>m ||| 2 ^ (p.2*n+p.1 - 1))
  (fun b l s=>(∀p∈l,(1≤p.1∧p.1≤n)∧p.2 < n)∧∃x y,s=[.fz (iL r),.fz (iN b),x,y])
  (fun b a l s ⟨hl,x,y,hs⟩=>by
   subst hs
   obtain ⟨⟨h1,h2⟩,h3⟩:=hl a (by simp)
   refine ⟨_,[.fz (iL r),.fz (iN (b ||| 2 ^ (a.2*n+a.1 - 1))),.fz (iN a.2),.fz (iN a.1)],rfl,?_,fun h hh=>hl h (by simp [hh]),_,_,rfl⟩
   have hb:a.2*n≤4*4:=kZ (by omega) h4
   have e:((a.2*n+a.1:Nat):Int) - 1=((a.2*n+a.1 - 1:Nat):Int):=by omega
   have el:vU .len (iL r)=some (iN n):=by rw [ig,hr.1]
   exact (sU (bx a_ ((bx (bx (bx (af rfl) (fV (af rfl) el) (qu (by omega))) (af rfl) eH) a_ rfl).trans (by rw [←e])) (Ik (by omega))) LC).trans rfl) (r.zipIdx 0) 0 [.fz (iL r),.fz (iN 0),.no,.no] ⟨LK hr.2 (by rw [hr.1];omega),.no,.no,rfl⟩
 rw [BV] at h
 have ei:pX (.enum (.var 0)) (view (freeze [] [.fz (iL r),.fz (iN 0),.no,.no]))=some ((r.zipIdx 0).map fun p=>.tup [iN p.2,iN p.1]):=(xJ (af rfl)).trans (by rw [ui])
 exact bg ((cH a_).trans ((fv ei h).trans (aX (af rfl))))
noncomputable def iG:List D→Option D:=kI (fun x:List Nat=>[iL x]) (fun x=>x.length≤4∧Wy.Row x.length x) (fun x=>iN (Wy.mark x.length x))
theorem wz {n:Nat} {r:List Nat} (h4:n≤4) (hr:Wy.Row n r):iG [iL r]=some (iN (Wy.mark n r)):=by
 have e:=hr.1
 subst e
 exact b4 (x:=r) ⟨h4,hr⟩ fun y h hy=>by
  injection h with h1 h
  rw [gg h1]
theorem wA:∀ds d,iG ds=some d→bQ 4 jT ds=some d:=fun ds d h=>by
 obtain ⟨x,rfl,hp,rfl⟩:=bj h
 exact vi hp.1 hp.2
end Tn
namespace Tn
open PySem Mi
noncomputable def iP (p:Nat×List Nat):D:=.tup [iN p.1,iL p.2]
noncomputable def pQ (l:List (Nat×List Nat)):D:=.lst (l.map iP)
theorem Q9 (a b:Nat×List Nat) (h:iP a=iP b):a=b:=by
 obtain ⟨a1,a2⟩:=a
 obtain ⟨b1,b2⟩:=b
 unfold iP at h
 injection h with h;injection h with h1 h;injection h with h2 h
 have e1:a1=b1:=cx h1
 have e2:a2=b2:=gg h2
 rw [e1,e2]
theorem Io {a b:List (Nat×List Nat)} (h:pQ a=pQ b):a=b:=by
 unfold pQ at h;injection h with h;exact map_inj Q9 h
noncomputable def fO:Ss:=(.cons (.jL (.op .eq (.op .band (.var 3) (.var 5)) (.int 0)) (.cons (.app 2 (.tup (.cons (.op .bor (.var 3) (.var 5)) (.cons (.op .add (.var 4) (.var 6)) .nil))) []) .nil) .nil) .nil)
noncomputable def ij:Ss:=(.cons (.jM (.tp [5,6]) (.lst (.var 1)) [] fO) .nil)
noncomputable def gO:Ss:=(.cons (.own 2 (.lst .nil) []) (.cons (.jM (.tp [3,4]) (.lst (.var 0)) [] ij) (.cons (.ret (.var 2) [2]) .nil)))
theorem Oa {a b:Nat}:i9 .band (iN a) (iN b)=some (iN (a &&& b)):=by
 show some (D.int (Builtin.bitAnd (a:Int) b))=_
 rw [PyProof.Rows.bitAnd_pp (by omega) (by omega)];rfl
theorem Ob {a b:Nat}:i9 .bor (iN a) (iN b)=some (iN (a ||| b)):=by
 show some (D.int (Builtin.bitOr (a:Int) b))=_
 rw [Bits.Ei (by omega) (by omega)];rfl
noncomputable def qv (p:Nat×List Nat) (R:List (Nat×List Nat)):List (Nat×List Nat):=(R.filter fun q=>decide (p.1 &&& q.1=0)).map fun q=>(p.1 ||| q.1,p.2++q.2)
noncomputable def sW (p:Nat×List Nat) (acc:List (Nat×List Nat)) (q:Nat×List Nat):List (Nat×List Nat):=if p.1 &&& q.1=0 then acc++[(p.1 ||| q.1,p.2++q.2)] else acc
theorem wa (p:Nat×List Nat):∀(R acc:List (Nat×List Nat)),R.foldl (sW p) acc=acc++qv p R
 | [],acc=>by simp [qv]
 | q::R,acc=>by
  rw [b9,wa p R]
  unfold sW qv
  rw [c5]
  by_cases h:p.1 &&& q.1=0
  ·rw [if_pos h,if_pos (decide_eq_true h),aO,de];rfl
  ·rw [if_neg h,if_neg (by rw [decide_eq_false h];exact aR)]
theorem GK (p:Nat×List Nat) (R:List (Nat×List Nat)):(qv p R).length≤R.length:=by
 unfold qv;rw [ah];exact gc _ _
theorem uj:∀(B acc R:List (Nat×List Nat)),B.foldl (fun acc p=>acc++qv p R) acc=acc++Wy.m9 B R
 | [],acc,R=>by simp [Wy.m9]
 | p::B,acc,R=>by
  rw [b9,uj B,de]
  unfold Wy.m9
  rw [b_];rfl
theorem qw {B R:List (Nat×List Nat)} (hs:B.length*R.length≤1000000) (hc:∀p∈B,∀q∈R,p.2.length+q.2.length≤1000):bQ 7 gO [pQ B,pQ R]=some (pQ (Wy.m9 B R)):=by
 have hz:(1000000:Nat)≤sizeLine:=by decide
 have inner:∀(p:Nat×List Nat) (acc:List (Nat×List Nat)) (x y:Sl),p∈B→acc.length+R.length≤1000000→∃x' y',loop (.tp [5,6]) (cf fO) (R.map iP) [.fz (pQ B),.fz (pQ R),.ow (acc.map iP),.fz (iN p.1),.fz (iL p.2),x,y]=some (.nx [.fz (pQ B),.fz (pQ R),.ow ((acc++qv p R).map iP),.fz (iN p.1),.fz (iL p.2),x',y']):=by
  intro p acc x y hp ha
  obtain ⟨s',h,_,_,x',y',rfl⟩:=dE (t:=.tp [5,6]) (body:=cf fO) iP (sW p)
   (fun b r s=>b.length+r.length≤1000000∧(∀q∈r,q∈R)∧∃x y,s=[.fz (pQ B),.fz (pQ R),.ow (b.map iP),.fz (iN p.1),.fz (iL p.2),x,y])
   (fun b q r s ⟨hb,hr,x,y,hs⟩=>by
    subst hs
    have hq:=hr q (by simp)
    rw [az] at hb
    have ec:bH (.op .eq (.op .band (.var 3) (.var 5)) (.int 0)) (bA [.fz (pQ B),.fz (pQ R),.ow (b.map iP),.fz (iN p.1),.fz (iL p.2),.fz (iN q.1),.fz (iL q.2)])=some (.bl (decide (p.1 &&& q.1=0))) :=
     bx (bx (af rfl) (af rfl) Oa) a_ (fT (b:=0))
    by_cases h:p.1 &&& q.1=0
    ·rw [decide_eq_true h] at ec
     refine ⟨_,[.fz (pQ B),.fz (pQ R),.ow ((b++[(p.1 ||| q.1,p.2++q.2)]).map iP),.fz (iN p.1),.fz (iL p.2),.fz (iN q.1),.fz (iL q.2)],rfl,?_,?_,fun t ht=>hr t (by simp [ht]),_,_,by unfold sW;rw [if_pos h]⟩
     ·refine (jP ec ((yD (ud (ai (bx (af rfl) (af rfl) Ob) (ai (bx (af rfl) (af rfl) (mx (hc p hp q hq))) ay))) ?_).trans rfl)).trans rfl
      show (if _ then some _ else none)=_
      rw [if_pos (by rw [ah];show b.length+1≤_;omega),bq]
      rfl
     ·unfold sW;rw [if_pos h,ax];show b.length+1+r.length≤_;omega
    ·rw [decide_eq_false h] at ec
     refine ⟨_,[.fz (pQ B),.fz (pQ R),.ow (b.map iP),.fz (iN p.1),.fz (iL p.2),.fz (iN q.1),.fz (iL q.2)],rfl,(aI ec).trans rfl,by unfold sW;rw [if_neg h];omega,fun t ht=>hr t (by simp [ht]),_,_,by unfold sW;rw [if_neg h]⟩)
   R acc _ ⟨ha,fun q hq=>hq,x,y,rfl⟩
  rw [wa] at h
  exact ⟨x',y',h⟩
 obtain ⟨s',h,_,_,u,v,x,y,rfl⟩:=dE (t:=.tp [3,4]) (body:=cf ij) iP (fun acc p=>acc++qv p R)
  (fun b r s=>b.length+r.length*R.length≤1000000∧(∀q∈r,q∈B)∧∃u v x y,s=[.fz (pQ B),.fz (pQ R),.ow (b.map iP),u,v,x,y])
  (fun b p r s ⟨hb,hr,u,v,x,y,hs⟩=>by
   subst hs
   rw [az,gE,iw] at hb
   obtain ⟨x',y',h⟩:=inner p b x y (hr p (by simp)) (by omega)
   refine ⟨_,_,rfl,(fv (eT (af rfl)) h).trans rfl,?_,fun t ht=>hr t (by simp [ht]),_,_,_,_,rfl⟩
   have:=GK p R
   rw [ax]
   omega)
  B [] [.fz (pQ B),.fz (pQ R),.ow [],.no,.no,.no,.no] ⟨by simpa using hs,fun q hq=>hq,.no,.no,.no,.no,rfl⟩
 rw [uj,fC] at h
 exact bg ((oY (cE ay)).trans ((fv (eT (af rfl)) h).trans (aX (af rfl))))
noncomputable def fN:List D→Option D:=kI (fun x:List (Nat×List Nat)×List (Nat×List Nat)=>[pQ x.1,pQ x.2]) (fun x=>x.1.length*x.2.length≤1000000∧∀p∈x.1,∀q∈x.2,p.2.length+q.2.length≤1000) (fun x=>pQ (Wy.m9 x.1 x.2))
theorem rQ {B R:List (Nat×List Nat)} (hs:B.length*R.length≤1000000) (hc:∀p∈B,∀q∈R,p.2.length+q.2.length≤1000):fN [pQ B,pQ R]=some (pQ (Wy.m9 B R)) :=
 b4 (x:=(B,R)) ⟨hs,hc⟩ fun y h hy=>by
  obtain ⟨a,b⟩:=y
  injection h with h1 h;injection h with h2 h
  rw [Io h1,Io h2]
theorem rR:∀ds d,fN ds=some d→bQ 7 gO ds=some d:=fun ds d h=>by
 obtain ⟨x,rfl,hp,rfl⟩:=bj h
 exact qw hp.1 hp.2
noncomputable def my:Ss:=(.cons (.asg 3 (.comp (.nm 4) (.lst (.call "line_ways" iF (.cons (.var 0) (.cons (.gl "LEFT" (.int 3)) (.cons (.var 2) .nil))))) .no (.tup (.cons (.call "column_marks" iG (.cons (.var 4) .nil)) (.cons (.var 4) .nil)))) []) (.cons (.asg 1 (.call "with_another_row" fN (.cons (.var 1) (.cons (.var 3) .nil))) []) .nil))
noncomputable def nh:Ss:=(.cons (.asg 1 (.lst (.cons (.tup (.cons (.int 0) (.cons (.lst .nil) .nil))) .nil)) []) (.cons (.jM (.nm 2) (.pW (.fld (.var 0) "n")) [] my) (.cons (.ret (.comp (.tp [5,6]) (.lst (.var 1)) (.yes (.call "columns_fit" ji (.cons (.var 0) (.cons (.var 6) .nil)))) (.var 6)) []) .nil)))
theorem jj {n:Nat}:∀{l:List (List Nat)},(∀q∈l,q.length=n)→l.flatten.length=l.length*n
 | [],_=>by simp
 | q::l,h=>by
  rw [bB,ax,h q (by simp),jj fun r hr=>h r (by simp [hr]),az,gE,iw,r6]
theorem BW (n:Nat) (t:vN) (c:J2):∀(m y:Nat) (L:List (List (List Nat))),(List.range' y m).foldl (fun L y=>Wy.lay n t c y L) L=Wy.Ly n t c m y L
 | 0,_,_=>rfl
 | m+1,y,L=>by rw [List.range'_succ,b9,BW n t c m (y+1),Wy.Ly]
theorem Ip (n:Nat) (t:vN) (c:J2) (y:Nat):∀L:List (List (List Nat)),(Wy.lay n t c y L).length≤L.length*(gT n t c 3 y).length
 | []=>by simp [Wy.lay]
 | l::L=>by
  have ih:=Ip n t c y L
  unfold Wy.lay at ih ⊢
  rw [b_,ax,ah,az,gE,iw]
  have:=gc (fun r=>l.all fun q=>Wy.apart q r) (gT n t c 3 y)
  omega
theorem Au {g:ag} (ok:cP g):bQ 7 nh [tD g]=some (iE (bb g)):=by
 have hn:=ok.hi
 obtain ⟨s',h,hL,_,_,x,y,rfl⟩:=dE (t:=.nm 2) (body:=cf my) iN (fun L y=>Wy.lay g.n g.town g.clues y L)
  (fun L r s=>(∀l∈L,(∀q∈l,Wy.Row g.n q)∧l.length+r.length=g.n)∧L.length*24 ^ r.length≤331776∧(∀i∈r,i < g.n)∧∃x y,s=[.fz (tD g),.fz (pQ (L.map (Wy.kept g.n))),x,y,.no,.no,.no])
  (fun L i r s ⟨hL,hz,hr,x,y,hs⟩=>by
   subst hs
   have hi:=hr i (by simp)
   obtain ⟨hw,Up⟩:=uh ok (k:=3) (i:=i)
   have e1:bH (.comp (.nm 4) (.lst (.call "line_ways" iF (.cons (.var 0) (.cons (.gl "LEFT" (.int 3)) (.cons (.var 2) .nil))))) .no (.tup (.cons (.call "column_marks" iG (.cons (.var 4) .nil)) (.cons (.var 4) .nil)))) (view (freeze [] [.fz (tD g),.fz (pQ (L.map (Wy.kept g.n))),.fz (iN i),y,.no,.no,.no]))=some (pQ ((jH g 3 i).map fun r=>(Wy.mark g.n r,r))):=by
    refine (eG (eT (aM (ai (af rfl) (ai bZ (ai (af rfl) ay))) (o9 (k:=3) ok (by decide) hi))) (dD iL (fun r=>iP (Wy.mark g.n r,r)) (jH g 3 i) fun r hr=>⟨_,rfl,kW,ud (ai (aM (ai (af ?_) ay) (wz ok.hi (hw r hr))) (ai (af ?_) ay))⟩)).trans ?_
    ·cases y<;>rfl
    ·cases y<;>rfl
    ·unfold pQ;rw [ba];rfl
   have Vq:L.length*24≤331776:=by
    rw [az,Nat.pow_succ,e8 (24 ^ r.length),←Nat.mul_assoc] at hz
    have:1≤24 ^ r.length:=Nat.pow_pos (by decide)
    exact aP (Nat.le_mul_of_pos_right _ this) hz
   have Nn:(L.map (Wy.kept g.n)).length*((jH g 3 i).map fun r=>(Wy.mark g.n r,r)).length≤1000000:=by
    rw [ah,ah]
    have:=Nb L.length Up
    omega
   have hc:∀p∈L.map (Wy.kept g.n),∀q∈(jH g 3 i).map fun r=>(Wy.mark g.n r,r),p.2.length+q.2.length≤1000:=by
    intro p hp q hq
    rw [bf] at hp hq
    obtain ⟨l,hl,rfl⟩:=hp
    obtain ⟨r',Vr,rfl⟩:=hq
    have h1:l.flatten.length=l.length*g.n:=jj fun q hq=>((hL l hl).1 q hq).1
    have h2:=(hw r' Vr).1
    have h3:=(hL l hl).2
    have h4:l.length*g.n≤4*4:=kZ (by omega) hn
    show l.flatten.length+r'.length≤1000
    omega
   have e2:bH (.call "with_another_row" fN (.cons (.var 1) (.cons (.var 3) .nil))) (view (freeze [] [.fz (tD g),.fz (pQ (L.map (Wy.kept g.n))),.fz (iN i),.fz (pQ ((jH g 3 i).map fun r=>(Wy.mark g.n r,r))),.no,.no,.no]))=some (pQ ((Wy.lay g.n g.town g.clues i L).map (Wy.kept g.n))):=by
    refine (aM (ai (af rfl) (ai (af rfl) ay)) (rQ Nn hc)).trans ?_
    rw [Wy.ED (fun l hl=>(hL l hl).1) hw]
    rfl
   refine ⟨_,_,rfl,(cH e1).trans ((cH e2).trans rfl),?_,?_,fun t ht=>hr t (by simp [ht]),_,_,rfl⟩
   ·intro l hl
    unfold Wy.lay at hl
    rw [gX] at hl
    obtain ⟨k,hk,hl⟩:=hl
    rw [bf] at hl
    obtain ⟨q,hq,rfl⟩:=hl
    rw [cN] at hq
    have h3:=(hL k hk).2
    rw [az] at h3
    refine ⟨fun t ht=>?_,by rw [ax];show k.length+1+r.length=g.n;omega⟩
    rcases bG.mp ht with ht|ht
    ·exact (hL k hk).1 t ht
    ·rw [b3] at ht
     subst ht
     exact hw _ hq.1
   ·have h1:=Ip g.n g.town g.clues i L
    have h2:(Wy.lay g.n g.town g.clues i L).length≤L.length*24:=aP h1 (Nb _ Up)
    rw [az,Nat.pow_succ,e8 (24 ^ r.length),←Nat.mul_assoc] at hz
    exact aP (mV _ h2) hz)
  (aq g.n) [[]] [.fz (tD g),.fz (pQ ([[]].map (Wy.kept g.n))),.no,.no,.no,.no,.no]
  ⟨fun l hl=>by
    rw [b3] at hl
    subst hl
    exact ⟨fun q hq=>by simp at hq,by simp⟩,by
    rw [aQ]
    have:24 ^ g.n≤24 ^ 4:=Nat.pow_le_pow_right (by decide) hn
    simp
    omega,fun i hi=>aT.mp hi,.no,.no,rfl⟩
 have eL:(aq g.n).foldl (fun L y=>Wy.lay g.n g.town g.clues y L) [[]]=jd g.n g.town g.clues g.n 0 []:=by
  rw [List.range_eq_range',BW,Wy.BS,b_,List.flatMap_nil,gn]
 rw [eL] at h hL
 have ef:bH (.comp (.tp [5,6]) (.lst (.var 1)) (.yes (.call "columns_fit" ji (.cons (.var 0) (.cons (.var 6) .nil)))) (.var 6)) (view (freeze [] [.fz (tD g),.fz (pQ ((jd g.n g.town g.clues g.n 0 []).map (Wy.kept g.n))),x,y,.no,.no,.no]))=some (iE (bb g)):=by
  have ei:pX (.lst (.var 1)) (view (freeze [] [.fz (tD g),.fz (pQ ((jd g.n g.town g.clues g.n 0 []).map (Wy.kept g.n))),x,y,.no,.no,.no]))=some ((jd g.n g.town g.clues g.n 0 []).map fun l=>iP (Wy.kept g.n l)) :=
   (eT (af rfl)).trans (by rw [ba];rfl)
  refine (eG ei (iD (fun l=>iP (Wy.kept g.n l)) (fun l=>uJ g.n g.clues l.flatten) (fun l=>iL l.flatten) _ fun l hl=>⟨_,rfl,?_,fun _=>af ?_⟩)).trans ?_
  ·have hf:l.flatten.length=g.n*g.n:=by
    rw [jj fun q hq=>((hL l hl).1 q hq).1]
    have:=(hL l hl).2
    simp at this
    rw [this]
   refine (oX (aM (ai (af ?_) (ai (af ?_) ay)) (yK ok hf))).trans ?_
   ·cases x<;>cases y<;>rfl
   ·cases x<;>cases y<;>rfl
   ·rw [N_ ok]
  ·cases x<;>cases y<;>rfl
  ·unfold bb oo iE
   rw [j9,ba]
   rfl
 exact bg ((cH (cE (ai (ud (ai a_ (ai (cE ay) ay))) ay))).trans ((fv (jc (cq (af rfl) (gL g)) (rP (by omega))) h).trans (aX ef)))
noncomputable def dF:List D→Option D:=kI (fun x:ag=>[tD x]) (fun x=>cP x) (fun x=>iE (bb x))
theorem gb {g:ag} (ok:cP g):dF [tD g]=some (iE (bb g)) :=
 b4 (x:=g) ok fun y h hy=>by
  injection h with h1 h
  rw [dQ hy ok h1]
theorem CO:∀ds d,dF ds=some d→bQ 7 nh ds=some d:=fun ds d h=>by
 obtain ⟨x,rfl,hp,rfl⟩:=bj h
 exact Au hp
end Tn
namespace Tn
open PySem Mi
noncomputable def dq (a:aW):D:=.lst (.int a.ret::a.out.map iN)
noncomputable def h9:List D→Option D:=kI (fun x:ag×Nat=>[tD x.1,iN x.2]) (fun x=>cP x.1) (fun x=>.bl (decide (x.2 < x.1.n*x.1.n)))
theorem sX {g:ag} {c:Nat} (ok:cP g):h9 [tD g,iN c]=some (.bl (decide (c < g.n*g.n))) :=
 b4 (x:=(g,c)) ok fun y h hy=>by
  obtain ⟨a,b⟩:=y
  injection h with h1 h;injection h with h2 h
  rw [dQ hy ok h1,cx h2]
theorem GL:∀ds d,h9 ds=some d→bQ 2 rm ds=some d:=fun ds d h=>by
 obtain ⟨x,rfl,hp,rfl⟩:=bj h
 exact EI hp x.2
noncomputable def iU:List D→Option D:=kI (fun x:ag×Nat×Nat=>[tD x.1,iN x.2.1,iN x.2.2]) (fun x=>cP x.1) (fun x=>.bl (decide (x.2.1 < 4)&&decide (x.2.2 < x.1.n)))
theorem yM {g:ag} {k i:Nat} (ok:cP g):iU [tD g,iN k,iN i]=some (.bl (decide (k < 4)&&decide (i < g.n))) :=
 b4 (x:=(g,k,i)) ok fun y h hy=>by
  obtain ⟨a,b,c⟩:=y
  injection h with h1 h;injection h with h2 h;injection h with h3 h
  rw [dQ hy ok h1,cx h2,cx h3]
theorem GN:∀ds d,iU ds=some d→bQ 3 rn ds=some d:=fun ds d h=>by
 obtain ⟨x,rfl,hp,rfl⟩:=bj h
 exact EJ x.2.1 x.2.2
theorem Iq {a b:Nat} (h:0 < b) (h2:b < 1000):i9 .fdiv (iN a) (iN b)=some (iN (a / b)):=by
 simp only [iN,i9]
 rw [if_pos ⟨by omega,by omega⟩];rfl
theorem LL {a b:Nat} (h:0 < b):i9 .mod (iN a) (iN b)=some (iN (a % b)):=by
 simp only [iN,i9]
 rw [if_pos (by omega)];rfl
noncomputable def jU:Ss:=(.cons (.asg 2 (.fld (.var 0) "n") []) (.cons (.asg 3 (.op .add (.call "line_cells" fw (.cons (.var 2) (.cons (.gl "LEFT" (.int 3)) (.cons (.op .fdiv (.var 1) (.var 2)) .nil)))) (.call "line_cells" fw (.cons (.var 2) (.cons (.gl "ABOVE" (.int 0)) (.cons (.op .mod (.var 1) (.var 2)) .nil))))) []) (.cons (.asg 4 (.comp (.nm 5) (.lst (.var 3)) (.yes (.op .ne (.var 5) (.var 1))) (.ix (.fld (.var 0) "cells") (.var 5))) []) (.cons (.ret (.comp (.nm 6) (.En (.int 1) (.op .add (.var 2) (.int 1))) (.yes (.op .r8 (.var 6) (.var 4))) (.var 6)) []) .nil))))
noncomputable def Ir (g:ag) (i:Nat):List Nat:=(lF g.n).filter fun h=>!((a7 g.n 3 (i / g.n)++a7 g.n 0 (i % g.n)).any fun p=>p != i&&aA g.town p == h)
theorem Iu {α:Type} (p:α→Bool) (f:α→Nat) (h:Nat):∀l:List α,decide (h∈(l.filter p).map f)=l.any fun x=>p x&&f x == h
 | []=>by simp
 | a::l=>by
  rw [mi,←Iu p f h l,c5]
  cases hp:p a with
  | false=>simp
  | true =>
   simp only [if_true,aO,aG,jK]
   by_cases e:h=f a
   ·simp [e]
   ·have e2:(f a == h)=false:=by rw [beq_eq_false_iff_ne];exact fun z=>e z.symm
    simp [e,e2]
theorem EW (n k i:Nat):(a7 n k i).length=n:=by unfold a7;rw [ah,aQ]
theorem vj {g:ag} {i:Nat} (ok:cP g) (hi:i < g.n*g.n):bQ 7 jU [tD g,iN i]=some (iL (Ir g i)):=by
 have hn:=ok.hi
 have hl:=ok.lo
 have h1:i / g.n < g.n:=MN hi
 have h2:i % g.n < g.n:=xu _ (by omega)
 have e3:bH (.op .add (.call "line_cells" fw (.cons (.var 2) (.cons (.gl "LEFT" (.int 3)) (.cons (.op .fdiv (.var 1) (.var 2)) .nil)))) (.call "line_cells" fw (.cons (.var 2) (.cons (.gl "ABOVE" (.int 0)) (.cons (.op .mod (.var 1) (.var 2)) .nil))))) (view (freeze [] [.fz (tD g),.fz (iN i),.fz (iN g.n),.no,.no,.no,.no]))=some (iL (a7 g.n 3 (i / g.n)++a7 g.n 0 (i % g.n))) :=
  bx (aM (ai (af rfl) (ai bZ (ai (bx (af rfl) (af rfl) (Iq (by omega) (by omega))) ay))) (jg (k:=3) hn (by omega))) (aM (ai (af rfl) (ai bZ (ai (bx (af rfl) (af rfl) (LL (by omega))) ay))) (jg (k:=0) hn (by omega))) (mx (by rw [EW,EW];omega))
 have e4:bH (.comp (.nm 5) (.lst (.var 3)) (.yes (.op .ne (.var 5) (.var 1))) (.ix (.fld (.var 0) "cells") (.var 5))) (view (freeze [] [.fz (tD g),.fz (iN i),.fz (iN g.n),.fz (iL (a7 g.n 3 (i / g.n)++a7 g.n 0 (i % g.n))),.no,.no,.no]))=some (iL (((a7 g.n 3 (i / g.n)++a7 g.n 0 (i % g.n)).filter fun p=>!decide (p=i)).map (aA g.town))):=by
  refine (eG (eT (af rfl)) (iD iN (fun p=>!decide (p=i)) (fun p=>iN (aA g.town p)) _ fun p hp=>⟨_,rfl,oX (bx (af rfl) (af rfl) EH),fun _=>eA (cq (af rfl) (eP g)) (af rfl) (jQ ?_)⟩)).trans (by rw [jR])
  rw [ok.town]
  rcases bG.mp hp with hp|hp
  ·exact oZ h1 hp
  ·exact oZ h2 hp
 refine bg ((cH (cq (af rfl) (gL g))).trans ((cH e3).trans ((cH e4).trans (aX ?_))))
 refine (eG (N7 a_ (bx (af rfl) a_ rfl) (Xu (by omega))) (iD iN (fun h=>!((a7 g.n 3 (i / g.n)++a7 g.n 0 (i % g.n)).any fun p=>p != i&&aA g.town p == h)) iN _ fun h hh=>⟨_,rfl,(oX (bx (af rfl) (af rfl) yF)).trans ?_,fun _=>af rfl⟩)).trans rfl
 rw [Iu]
 have e:(fun p:Nat=>(!decide (p=i))&&aA g.town p == h)=fun p=>p != i&&aA g.town p == h:=by
  funext p
  cases e:decide (p=i) with
  | true=>rw [decide_eq_true_eq] at e;simp [e]
  | false=>rw [decide_eq_false_iff_not] at e;simp [e]
 rw [e]
noncomputable def jV:List D→Option D:=kI (fun x:ag×Nat=>[tD x.1,iN x.2]) (fun x=>cP x.1∧x.2 < x.1.n*x.1.n) (fun x=>iL (Ir x.1 x.2))
theorem wB {g:ag} {c:Nat} (ok:cP g) (hc:c < g.n*g.n):jV [tD g,iN c]=some (iL (Ir g c)) :=
 b4 (x:=(g,c)) ⟨ok,hc⟩ fun y h hy=>by
  obtain ⟨a,b⟩:=y
  injection h with h1 h;injection h with h2 h
  rw [dQ hy.1 ok h1,cx h2]
theorem wC:∀ds d,jV ds=some d→bQ 7 jU ds=some d:=fun ds d h=>by
 obtain ⟨x,rfl,hp,rfl⟩:=bj h
 exact vj hp.1 hp.2
theorem GO {n:Nat} (h:n≤4):∀x∈lF n,1≤x∧x≤4:=by
 intro x hx
 unfold lF at hx
 rw [bf] at hx
 obtain ⟨j,hj,rfl⟩:=hx
 rw [aT] at hj
 omega
noncomputable def qx:Ss:=(.cons (.jL (.not (.call "is_cell" h9 (.cons (.var 0) (.cons (.var 1) .nil)))) (.cons (.ret (.lst (.cons (.gl "NO_SUCH" (.int (-22))) .nil)) []) .nil) .nil) (.cons (.ret (.lst (.cons (.ix (.fld (.var 0) "cells") (.var 1)) (.cons (.call "as_bits" oI (.cons (.call "free_heights" jV (.cons (.var 0) (.cons (.var 1) .nil))) .nil)) .nil))) []) .nil))
noncomputable def told (g:ag) (c:Kh321.Call):aW:=(a6 (some ⟨g,[],[]⟩) c).2
theorem oJ {g:ag} {i:Nat} {s:List Sl} (ok:cP g) (h0:fR (bA s) 0=some (tD g)) (h1:fR (bA s) 1=some (iN i)):bH (.not (.call "is_cell" h9 (.cons (.var 0) (.cons (.var 1) .nil)))) (bA s)=some (.bl (!decide (i < g.n*g.n))) :=
 v7 (aM (ai (af h0) (ai (af h1) ay)) (sX ok))
theorem oK {g:ag} {k i:Nat} {s:List Sl} (ok:cP g) (h0:fR (bA s) 0=some (tD g)) (h1:fR (bA s) 1=some (iN k)) (h2:fR (bA s) 2=some (iN i)):bH (.not (.call "is_line" iU (.cons (.var 0) (.cons (.var 1) (.cons (.var 2) .nil))))) (bA s)=some (.bl (!(decide (k < 4)&&decide (i < g.n)))) :=
 v7 (aM (ai (af h0) (ai (af h1) (ai (af h2) ay))) (yM ok))
theorem Av {g:ag} {i:Nat} (ok:cP g):bQ 2 qx [tD g,iN i]=some (dq (told g (.at_ i))):=by
 have hn:=ok.hi
 by_cases h:i < g.n*g.n
 ·refine bg ((aI ((oJ ok rfl rfl).trans (by rw [decide_eq_true h];rfl))).trans ((aX (cE (ai (eA (cq (af rfl) (eP g)) (af rfl) (jQ (by rw [ok.town];exact h))) (ai (aM (ai (aM (ai (af rfl) (ai (af rfl) ay)) (wB ok h)) ay) (yJ ?_)) ay)))).trans ?_))
  ·intro x hx
   have:=GO hn x (cN.mp hx).1
   omega
  ·have e:told g (.at_ i)=⟨aA g.town i,[ly (Ir g i)]⟩:=by
    show (if g.n*g.n≤i then _ else _:Option aE×aW).2=_
    rw [if_neg (by omega)];rfl
   rw [e];rfl
 ·refine bg ((bJ ((oJ ok rfl rfl).trans (by rw [decide_eq_false h];rfl)) (aX (cE (ai bZ ay)))).trans ?_)
  have e:told g (.at_ i)=aw (-22):=by
   show (if g.n*g.n≤i then _ else _:Option aE×aW).2=_
   rw [if_pos (by omega)]
  rw [e];rfl
noncomputable def nY:Ss:=(.cons (.jL (.not (.call "is_line" iU (.cons (.var 0) (.cons (.var 1) (.cons (.var 2) .nil))))) (.cons (.ret (.lst (.cons (.gl "NO_SUCH" (.int (-22))) .nil)) []) .nil) .nil) (.cons (.ret (.lst (.cons (.call "count_seen" di (.cons (.call "line_towers" cy (.cons (.var 0) (.cons (.var 1) (.cons (.var 2) .nil)))) .nil)) .nil)) []) .nil))
noncomputable def nZ:Ss:=(.cons (.jL (.not (.call "is_line" iU (.cons (.var 0) (.cons (.var 1) (.cons (.var 2) .nil))))) (.cons (.ret (.lst (.cons (.gl "NO_SUCH" (.int (-22))) .nil)) []) .nil) .nil) (.cons (.ret (.lst (.cons (.call "line_clue" cb (.cons (.var 0) (.cons (.var 1) (.cons (.var 2) .nil)))) .nil)) []) .nil))
theorem yN {k i n:Nat} (h:k < 4∧i < n):(!(decide (k < 4)&&decide (i < n)))=false:=by rw [decide_eq_true h.1,decide_eq_true h.2];rfl
theorem CP {k i n:Nat} (h:¬(k < 4∧i < n)):(!(decide (k < 4)&&decide (i < n)))=true:=by
 by_cases h1:k < 4
 ·rw [decide_eq_false (fun h2=>h ⟨h1,h2⟩),Bool.and_false];rfl
 ·rw [decide_eq_false h1];rfl
theorem wD {g:ag} {k i:Nat} (ok:cP g):bQ 3 nY [tD g,iN k,iN i]=some (dq (told g (.seen k i))):=by
 by_cases h:k < 4∧i < g.n
 ·refine bg ((aI ((oK ok rfl rfl rfl).trans (by rw [yN h]))).trans ((aX (cE (ai (aM (ai (aM (ai (af rfl) (ai (af rfl) (ai (af rfl) ay))) (eI ok h.2)) ay) (h8 _)) ay))).trans ?_))
  have e:told g (.seen k i)=aw (dC g.n g.town k i:Nat):=by
   show (if 3 < k∨g.n≤i then _ else _:Option aE×aW).2=_
   rw [if_neg (by omega)]
  rw [e];rfl
 ·refine bg ((bJ ((oK ok rfl rfl rfl).trans (by rw [CP h])) (aX (cE (ai bZ ay)))).trans ?_)
  have e:told g (.seen k i)=aw (-22):=by
   show (if 3 < k∨g.n≤i then _ else _:Option aE×aW).2=_
   rw [if_pos (by omega)]
  rw [e];rfl
theorem wF {g:ag} {k i:Nat} (ok:cP g):bQ 3 nZ [tD g,iN k,iN i]=some (dq (told g (.clue k i))):=by
 by_cases h:k < 4∧i < g.n
 ·refine bg ((aI ((oK ok rfl rfl rfl).trans (by rw [yN h]))).trans ((aX (cE (ai (aM (ai (af rfl) (ai (af rfl) (ai (af rfl) ay))) (eB ok h.1 h.2)) ay))).trans ?_))
  have e:told g (.clue k i)=aw (a8 g.clues k i:Nat):=by
   show (if 3 < k∨g.n≤i then _ else _:Option aE×aW).2=_
   rw [if_neg (by omega)]
  rw [e];rfl
 ·refine bg ((bJ ((oK ok rfl rfl rfl).trans (by rw [CP h])) (aX (cE (ai bZ ay)))).trans ?_)
  have e:told g (.clue k i)=aw (-22):=by
   show (if 3 < k∨g.n≤i then _ else _:Option aE×aW).2=_
   rw [if_pos (by omega)]
  rw [e];rfl
end Tn
namespace Tn
open PySem Mi
noncomputable def ik:Ss:=(.cons (.jL (.op .gt (.var 3) (.int 0)) (.cons (.aug 1 .add (.cnt (.sl (.var 0) .no (.yes (.var 2))) (.var 3))) .nil) .nil) .nil)
noncomputable def gP:Ss:=(.cons (.asg 1 (.int 0) []) (.cons (.jM (.tp [2,3]) (.enum (.var 0)) [] ik) (.cons (.ret (.var 1) []) .nil)))
theorem yO (h:Nat):∀l:List Nat,(l.map fun x:Nat=>(x:Int)).count (h:Int)=l.count h
 | []=>rfl
 | a::l=>by
  rw [aO,Cd,Cd,yO h l]
  congr 1
  by_cases e:a=h
  ·simp [e]
  ·have:¬(a:Int)=h:=by omega
   simp [e,this]
theorem LM {l:List Nat} {h:Nat}:Jq (iL l) (iN h)=some (iN (l.count h)):=by
 have e:Jq (iL l) (iN h)=(intsOf (l.map iN)).bind fun x=>some (.int (x.count (h:Int):Nat)):=rfl
 rw [e,gN]
 show some (D.int ((l.map fun x:Nat=>(x:Int)).count (h:Int):Nat))=_
 rw [yO];rfl
theorem Oc {l:List Nat} {k:Nat}:J7 (iL l) none (some (k:Int))=some (iL (l.take k)):=by
 have e:J7 (iL l) none (some (k:Int))=some (.lst (((l.map iN).drop 0).take (min k (l.map iN).length - 0))):=rfl
 rw [e,List.drop_zero,J3,ah]
 unfold iL
 congr 2
 rw [←pU]
 congr 1
 by_cases h:k≤l.length
 ·rw [fI h]
 ·rw [Nat.min_eq_right (by omega),d7 (aY _),d7 (by omega)]
noncomputable def likeOf (l:List Nat) (p:Nat×Nat):Nat:=if 0 < p.1 then (l.take p.2).count p.1 else 0
noncomputable def ip (l:List Nat):Nat:=(l.zipIdx 0).foldl (fun m p=>m+likeOf l p) 0
theorem qy (l:List Nat):bQ 4 gP [iL l]=some (iN (ip l)):=by
 obtain ⟨s',h,x,y,rfl⟩:=dE (t:=.tp [2,3]) (body:=cf ik) (fun p:Nat×Nat=>.tup [iN p.2,iN p.1]) (fun m p=>m+likeOf l p)
  (fun b r s=>∃x y,s=[.fz (iL l),.fz (iN b),x,y])
  (fun b a r s ⟨x,y,hs⟩=>by
   subst hs
   refine ⟨_,[.fz (iL l),.fz (iN (b+likeOf l a)),.fz (iN a.2),.fz (iN a.1)],rfl,?_,_,_,rfl⟩
   have ec:bH (.op .gt (.var 3) (.int 0)) (bA [.fz (iL l),.fz (iN b),.fz (iN a.2),.fz (iN a.1)])=some (.bl (decide (0 < a.1))):=bx (af rfl) a_ (jD (b:=0))
   unfold likeOf
   by_cases h:0 < a.1
   ·rw [if_pos h]
    rw [decide_eq_true h] at ec
    exact (jP ec ((sU (Pg (EE (af rfl) Xr (pO (af rfl)) Oc) (af rfl) LM) rfl).trans rfl)).trans rfl
   ·rw [if_neg h]
    rw [decide_eq_false h] at ec
    exact (aI ec).trans rfl) (l.zipIdx 0) 0 [.fz (iL l),.fz (iN 0),.no,.no] ⟨.no,.no,rfl⟩
 have ei:pX (.enum (.var 0)) (view (freeze [] [.fz (iL l),.fz (iN 0),.no,.no]))=some ((l.zipIdx 0).map fun p=>.tup [iN p.2,iN p.1]):=(xJ (af rfl)).trans (by rw [ui])
 exact bg ((cH a_).trans ((fv ei h).trans (aX (af rfl))))
noncomputable def dA:List D→Option D:=kI (fun x:List Nat=>[iL x]) (fun x=>True) (fun x=>iN (ip x))
theorem lC (l:List Nat):dA [iL l]=some (iN (ip l)) :=
 b4 (x:=l) trivial fun y h hy=>by
  injection h with h1 h
  rw [gg h1]
theorem rS:∀ds d,dA ds=some d→bQ 4 gP ds=some d:=fun ds d h=>by
 obtain ⟨x,rfl,hp,rfl⟩:=bj h
 exact qy x
noncomputable def LN (l:List Nat) (a:Nat):Nat:=((aq a).filter fun b=>l.getD a 0 != 0&&l.getD a 0 == l.getD b 0).length
theorem count_range (l:List Nat) (h:Nat):∀a:Nat,a≤l.length→(l.take a).count h=((aq a).filter fun b=>h == l.getD b 0).length
 | 0,_=>by simp
 | a+1,ha=>by
  have hg:l[a]?=some (l.getD a 0):=by rw [ak,au (by omega)];rfl
  have e:l.take (a+1)=l.take a++[l.getD a 0]:=by rw [OJ,hg];rfl
  rw [e,List.count_append,count_range l h a (by omega),List.range_succ,List.filter_append,ax]
  congr 1
  rw [List.count_singleton,c5]
  by_cases q:h=l.getD a 0
  ·rw [←q,beq_self_eq_true];rfl
  ·have q1:(h == l.getD a 0)=false:=by rw [beq_eq_false_iff_ne];exact q
   have q2:(l.getD a 0 == h)=false:=by rw [beq_eq_false_iff_ne];exact fun z=>q z.symm
   rw [q1,q2];rfl
theorem Od (l:List Nat) {a:Nat} (ha:a < l.length):likeOf l (l.getD a 0,a)=LN l a:=by
 unfold likeOf LN
 by_cases h:0 < l.getD a 0
 ·rw [if_pos h,count_range l _ a (by omega)]
  congr 1
  apply cU
  intro b _
  have:(l.getD a 0 != 0)=true:=by rw [bne_iff_ne];omega
  rw [this,jK]
 ·rw [if_neg h]
  have e:l.getD a 0=0:=by omega
  rw [e]
  symm
  rw [Hk,List.filter_eq_nil_iff]
  intro b _
  simp
theorem BX {l:List Nat} (f:Nat×Nat→Nat):∀(r:List Nat) (x m:Nat),(∀j,j < r.length→l.getD (x+j) 0=r.getD j 0)→(r.zipIdx x).foldl (fun m p=>m+f p) m=m+((aq r.length).map fun j=>f (l.getD (x+j) 0,x+j)).sum
 | [],x,m,_=>by simp
 | h::r,x,m,hr=>by
  have h0:=hr 0 (by simp)
  have ih:=BX (l:=l) f r (x+1) (m+f (h,x)) fun j hj=>by
   have:=hr (j+1) (by simp;omega)
   rw [show x+1+j=x+(j+1) by omega,this];rfl
  rw [qc,b9,ih,az,iu,aO,vO,ba]
  have e0:l.getD (x+0) 0=h:=h0
  have e3:f (l.getD (x+0) 0,x+0)=f (h,x):=by rw [e0];rfl
  rw [e3]
  have e1:(aq r.length).map (fun j=>f (l.getD (x+1+j) 0,x+1+j))=(aq r.length).map ((fun j=>f (l.getD (x+j) 0,x+j))∘Nat.succ):=by
   apply bT
   intro j _
   show f (l.getD (x+1+j) 0,x+1+j)=f (l.getD (x+(j+1)) 0,x+(j+1))
   rw [show x+1+j=x+(j+1) by omega]
  rw [e1];omega
theorem yP (l:List Nat):ip l=((aq l.length).map (LN l)).sum:=by
 unfold ip
 rw [BX (l:=l) (likeOf l) l 0 0 (fun j _=>by rw [cj]),cj]
 congr 1
 apply bT
 intro a ha
 rw [cj]
 exact Od l (aT.mp ha)
noncomputable def k_:Ss:=(.cons (.aug 1 .add (.call "like_pairs_along" dA (.cons (.call "line_towers" cy (.cons (.var 0) (.cons (.gl "LEFT" (.int 3)) (.cons (.var 2) .nil)))) .nil))) (.cons (.aug 1 .add (.call "like_pairs_along" dA (.cons (.call "line_towers" cy (.cons (.var 0) (.cons (.gl "ABOVE" (.int 0)) (.cons (.var 2) .nil)))) .nil))) .nil))
noncomputable def lK:Ss:=(.cons (.asg 1 (.int 0) []) (.cons (.jM (.nm 2) (.pW (.fld (.var 0) "n")) [] k_) (.cons (.ret (.var 1) []) .nil)))
theorem yQ (f:Nat→Nat):∀(l:List Nat) (m:Nat),l.foldl (fun m i=>m+f i) m=m+(l.map f).sum
 | [],m=>by simp
 | a::l,m=>by rw [b9,yQ f l,aO,vO];omega
theorem yR {g:ag} (ok:cP g):bQ 3 lK [tD g]=some (iN (gq g)):=by
 have hn:=ok.hi
 obtain ⟨s',h,_,x,rfl⟩:=dE (t:=.nm 2) (body:=cf k_) iN (fun m i=>m+(ip (dm g 3 i)+ip (dm g 0 i)))
  (fun b r s=>(∀i∈r,i < g.n)∧∃x,s=[.fz (tD g),.fz (iN b),x])
  (fun b i r s ⟨hr,x,hs⟩=>by
   subst hs
   have hi:=hr i (by simp)
   refine ⟨_,[.fz (tD g),.fz (iN (b+(ip (dm g 3 i)+ip (dm g 0 i)))),.fz (iN i)],rfl,?_,fun t ht=>hr t (by simp [ht]),_,rfl⟩
   have e1:bH (.call "like_pairs_along" dA (.cons (.call "line_towers" cy (.cons (.var 0) (.cons (.gl "LEFT" (.int 3)) (.cons (.var 2) .nil)))) .nil)) (bA [.fz (tD g),.fz (iN b),.fz (iN i)])=some (iN (ip (dm g 3 i))) :=
    aM (ai (aM (ai (af rfl) (ai bZ (ai (af rfl) ay))) (eI (k:=3) ok hi)) ay) (lC _)
   have e2:bH (.call "like_pairs_along" dA (.cons (.call "line_towers" cy (.cons (.var 0) (.cons (.gl "ABOVE" (.int 0)) (.cons (.var 2) .nil)))) .nil)) (bA [.fz (tD g),.fz (iN (b+ip (dm g 3 i))),.fz (iN i)])=some (iN (ip (dm g 0 i))) :=
    aM (ai (aM (ai (af rfl) (ai bZ (ai (af rfl) ay))) (eI (k:=0) ok hi)) ay) (lC _)
   refine (sU e1 rfl).trans ((sU e2 rfl).trans ?_)
   rw [←wj];rfl) (aq g.n) 0 [.fz (tD g),.fz (iN 0),.no] ⟨fun i hi=>aT.mp hi,.no,rfl⟩
 have es:(aq g.n).foldl (fun m i=>m+(ip (dm g 3 i)+ip (dm g 0 i))) 0=gq g:=by
  rw [yQ,cj]
  unfold gq
  congr 1
  apply bT
  intro i _
  rw [yP,yP,jw,jw]
  show _=List.sum [_,_]
  rw [vO,vO,List.sum_nil,k0]
  rfl
 rw [es] at h
 exact bg ((cH a_).trans ((fv (jc (cq (af rfl) (gL g)) (rP (by omega))) h).trans (aX (af rfl))))
noncomputable def iV:List D→Option D:=kI (fun x:ag=>[tD x]) (fun x=>cP x) (fun x=>iN (gq x))
theorem r_ {g:ag} (ok:cP g):iV [tD g]=some (iN (gq g)) :=
 b4 (x:=g) ok fun y h hy=>by
  injection h with h1 h
  rw [dQ hy ok h1]
theorem Aw:∀ds d,iV ds=some d→bQ 3 lK ds=some d:=fun ds d h=>by
 obtain ⟨x,rfl,hp,rfl⟩:=bj h
 exact yR hp
noncomputable def o_:Ss:=(.cons (.ret (.and (.cons (.op .gt (.var 0) (.int 0)) (.cons (.op .r8 (.int 0) (.var 1)) (.cons (.op .ne (.call "count_seen" di (.cons (.var 1) .nil)) (.var 0)) .nil)))) []) .nil)
noncomputable def lg (c:Nat) (l:List Nat):Bool:=c != 0&&(l.all (fun x=>x != 0)&&dY 0 l != c)
theorem vk:∀l:List Nat,(!decide (0∈l))=l.all fun x=>x != 0
 | []=>by simp
 | a::l=>by
  rw [dk,←vk l]
  by_cases h:a=0
  ·subst h;simp
  ·have h':¬0=a:=fun z=>h z.symm
   have:(a != 0)=true:=by rw [bne_iff_ne];exact h
   rw [this,jK]
   congr 1
   exact decide_eq_decide.mpr (by rw [aG];simp [h'])
theorem LO (a b:Nat):(!decide (a=b))=(a != b):=by
 by_cases h:a=b
 ·simp [h]
 ·have:(a != b)=true:=by rw [bne_iff_ne];exact h
  rw [this,decide_eq_false h];rfl
theorem GP (a:Nat):decide (0 < a)=(a != 0):=by
 rw [←LO]
 by_cases h:a=0
 ·simp [h]
 ·rw [decide_eq_false h,decide_eq_true (by omega)];rfl
theorem CQ (c:Nat) (l:List Nat):bQ 2 o_ [iN c,iL l]=some (.bl (lg c l)):=by
 refine bg (aX ((Q7 (bx (af rfl) a_ (jD (b:=0))) (fun _=>bx a_ (af rfl) (yF (x:=0))) fun _ _=>bx (aM (ai (af rfl) ay) (h8 l)) (af rfl) EH).trans ?_))
 rw [GP,vk,LO];rfl
noncomputable def mz:List D→Option D:=kI (fun x:Nat×List Nat=>[iN x.1,iL x.2]) (fun x=>True) (fun x=>.bl (lg x.1 x.2))
theorem EX (c:Nat) (l:List Nat):mz [iN c,iL l]=some (.bl (lg c l)) :=
 b4 (x:=(c,l)) trivial fun y h hy=>by
  obtain ⟨a,b⟩:=y
  injection h with h1 h;injection h with h2 h
  rw [cx h1,gg h2]
theorem EY:∀ds d,mz ds=some d→bQ 2 o_ ds=some d:=fun ds d h=>by
 obtain ⟨x,rfl,hp,rfl⟩:=bj h
 exact CQ x.1 x.2
noncomputable def iW:Ss:=(.cons (.jL (.call "is_wrong" mz (.cons (.call "line_clue" cb (.cons (.var 0) (.cons (.var 2) (.cons (.var 3) .nil)))) (.cons (.call "line_towers" cy (.cons (.var 0) (.cons (.var 2) (.cons (.var 3) .nil)))) .nil))) (.cons (.aug 1 .add (.int 1)) .nil) .nil) .nil)
noncomputable def kx:Ss:=(.cons (.jM (.nm 3) (.pW (.fld (.var 0) "n")) [] iW) .nil)
noncomputable def kK:Ss:=(.cons (.asg 1 (.int 0) []) (.cons (.jM (.nm 2) (.pW (.gl "SIDES" (.int 4))) [] kx) (.cons (.ret (.var 1) []) .nil)))
theorem yS (p:Nat→Bool):∀(l:List Nat) (m:Nat),l.foldl (fun m i=>if p i=true then m+1 else m) m=m+(l.filter p).length
 | [],m=>by simp
 | a::l,m=>by
  rw [b9,yS p l,c5]
  cases h:p a with
  | true=>rw [if_pos rfl,if_pos rfl,az];omega
  | false=>rw [if_neg aR,if_neg aR]
theorem EZ (g:ag) (ks:List Nat):ks.foldl (fun m k=>m+((aq g.n).filter fun i=>lg (a8 g.clues k i) (dm g k i)).length) 0=(ks.map fun k=>((aq g.n).filter fun i=>a8 g.clues k i != 0&&((a7 g.n k i).all (fun p=>aA g.town p != 0)&&dC g.n g.town k i != a8 g.clues k i)).length).sum:=by
 rw [yQ (fun k=>((aq g.n).filter fun i=>lg (a8 g.clues k i) (dm g k i)).length),cj]
 congr 1
 apply bT
 intro k _
 congr 1
 apply cU
 intro i _
 unfold lg dm
 rw [x_]
 rfl
theorem wG {g:ag} (ok:cP g):bQ 4 kK [tD g]=some (iN (gr g)):=by
 have hn:=ok.hi
 have inner:∀(k m:Nat) (x:Sl),k < 4→∃x',loop (.nm 3) (cf iW) ((aq g.n).map iN) [.fz (tD g),.fz (iN m),.fz (iN k),x]=some (.nx [.fz (tD g),.fz (iN (m+((aq g.n).filter fun i=>lg (a8 g.clues k i) (dm g k i)).length)),.fz (iN k),x']):=by
  intro k m x hk
  obtain ⟨s',h,_,x',rfl⟩:=dE (t:=.nm 3) (body:=cf iW) iN (fun m i=>if lg (a8 g.clues k i) (dm g k i)=true then m+1 else m)
   (fun b r s=>(∀i∈r,i < g.n)∧∃x,s=[.fz (tD g),.fz (iN b),.fz (iN k),x])
   (fun b i r s ⟨hr,x,hs⟩=>by
    subst hs
    have hi:=hr i (by simp)
    have ec:bH (.call "is_wrong" mz (.cons (.call "line_clue" cb (.cons (.var 0) (.cons (.var 2) (.cons (.var 3) .nil)))) (.cons (.call "line_towers" cy (.cons (.var 0) (.cons (.var 2) (.cons (.var 3) .nil)))) .nil))) (bA [.fz (tD g),.fz (iN b),.fz (iN k),.fz (iN i)])=some (.bl (lg (a8 g.clues k i) (dm g k i))) :=
     aM (ai (aM (ai (af rfl) (ai (af rfl) (ai (af rfl) ay))) (eB ok hk hi)) (ai (aM (ai (af rfl) (ai (af rfl) (ai (af rfl) ay))) (eI ok hi)) ay)) (EX _ _)
    cases hw:lg (a8 g.clues k i) (dm g k i) with
    | true =>
     rw [hw] at ec
     exact ⟨_,[.fz (tD g),.fz (iN (b+1)),.fz (iN k),.fz (iN i)],rfl,(jP ec ((sU a_ rfl).trans rfl)).trans rfl,fun t ht=>hr t (by simp [ht]),_,by rw [if_pos rfl]⟩
    | false =>
     rw [hw] at ec
     exact ⟨_,[.fz (tD g),.fz (iN b),.fz (iN k),.fz (iN i)],rfl,(aI ec).trans rfl,fun t ht=>hr t (by simp [ht]),_,by rw [if_neg aR]⟩) (aq g.n) m [.fz (tD g),.fz (iN m),.fz (iN k),x] ⟨fun i hi=>aT.mp hi,x,rfl⟩
  rw [yS] at h
  exact ⟨x',h⟩
 obtain ⟨s',h,_,x,y,rfl⟩:=dE (t:=.nm 2) (body:=cf kx) iN (fun m k=>m+((aq g.n).filter fun i=>lg (a8 g.clues k i) (dm g k i)).length)
  (fun b r s=>(∀k∈r,k < 4)∧∃x y,s=[.fz (tD g),.fz (iN b),x,y])
  (fun b k r s ⟨hr,x,y,hs⟩=>by
   subst hs
   obtain ⟨y',h⟩:=inner k b y (hr k (by simp))
   exact ⟨_,_,rfl,(fv (jc (cq (af rfl) (gL g)) (rP (by omega))) h).trans rfl,fun t ht=>hr t (by simp [ht]),_,_,rfl⟩) (aq 4) 0 [.fz (tD g),.fz (iN 0),.no,.no] ⟨fun i hi=>aT.mp hi,.no,.no,rfl⟩
 have es:(aq 4).foldl (fun m k=>m+((aq g.n).filter fun i=>lg (a8 g.clues k i) (dm g k i)).length) 0=gr g:=EZ g (aq 4)
 rw [es] at h
 have e4:pX (.pW (.gl "SIDES" (.int 4))) (view (freeze [] [.fz (tD g),.fz (iN 0),.no,.no]))=some ((aq 4).map iN):=jc (x:=iN 4) bZ (rP (by omega))
 exact bg ((cH a_).trans ((fv e4 h).trans (aX (af rfl))))
noncomputable def h_:List D→Option D:=kI (fun x:ag=>[tD x]) (fun x=>cP x) (fun x=>iN (gr x))
theorem qz {g:ag} (ok:cP g):h_ [tD g]=some (iN (gr g)) :=
 b4 (x:=g) ok fun y h hy=>by
  injection h with h1 h
  rw [dQ hy ok h1]
theorem yT:∀ds d,h_ ds=some d→bQ 4 kK ds=some d:=fun ds d h=>by
 obtain ⟨x,rfl,hp,rfl⟩:=bj h
 exact wG hp
noncomputable def mB:Ss:=(.cons (.ret (.lst (.cons (.call "like_pairs" iV (.cons (.var 0) .nil)) (.cons (.call "wrong_clues" h_ (.cons (.var 0) .nil)) .nil))) []) .nil)
theorem vm {g:ag} (ok:cP g):bQ 1 mB [tD g]=some (dq (told g .clash)) :=
 bg (aX (cE (ai (aM (ai (af rfl) ay) (r_ ok)) (ai (aM (ai (af rfl) ay) (qz ok)) ay))))
noncomputable def n0:Ss:=(.cons (.jL (.or (.cons (.op .isin (.int 0) (.fld (.var 0) "cells")) (.cons (.op .gt (.call "like_pairs" iV (.cons (.var 0) .nil)) (.int 0)) (.cons (.op .gt (.call "wrong_clues" h_ (.cons (.var 0) .nil)) (.int 0)) .nil)))) (.cons (.ret (.lst (.cons (.int 0) .nil)) []) .nil) .nil) (.cons (.ret (.lst (.cons (.int 1) .nil)) []) .nil))
theorem Of (g:ag):(decide (0∈g.town)||(decide (0 < gq g)||decide (0 < gr g)))=!(gF g&&(gq g == 0&&gr g == 0)):=by
 unfold gF
 rw [←vk,GP,GP]
 have h1:∀a:Nat,(a != 0)=!(a == 0):=fun a=>rfl
 rw [h1,h1]
 cases decide (0∈g.town)<;>cases (gq g == 0)<;>cases (gr g == 0)<;>rfl
theorem wH {g:ag} (ok:cP g):bQ 1 n0 [tD g]=some (dq (told g .done)):=by
 have ec:bH (.or (.cons (.op .isin (.int 0) (.fld (.var 0) "cells")) (.cons (.op .gt (.call "like_pairs" iV (.cons (.var 0) .nil)) (.int 0)) (.cons (.op .gt (.call "wrong_clues" h_ (.cons (.var 0) .nil)) (.int 0)) .nil)))) (bA [.fz (tD g)])=some (.bl !(gF g&&(gq g == 0&&gr g == 0))) :=
  (Ph (bx a_ (cq (af rfl) (eP g)) (Lz (x:=0))) (fun _=>bx (aM (ai (af rfl) ay) (r_ ok)) a_ (jD (b:=0))) fun _ _=>bx (aM (ai (af rfl) ay) (qz ok)) a_ (jD (b:=0))).trans (by rw [Of])
 have e:told g .done=aw (if (gF g&&(gq g == 0&&gr g == 0))=true then 1 else 0):=rfl
 rw [e]
 refine bg ?_
 cases hc:(gF g&&(gq g == 0&&gr g == 0)) with
 | true =>
  rw [hc] at ec
  exact (aI ec).trans ((aX (cE (ai a_ ay))).trans rfl)
 | false =>
  rw [hc] at ec
  exact (bJ ec (aX (cE (ai a_ ay)))).trans rfl
end Tn
namespace Tn
open PySem Mi
noncomputable def rq:Ss:=(.cons (.ret (.un .all (.comp (.nm 2) (.lst (.var 0)) .no (.op .eq (.ix (.var 2) (.var 1)) (.ix (.ix (.var 0) (.int 0)) (.var 1))))) []) .nil)
theorem BY {α:Type} (f:α→Bool):∀l:List α,lB (l.map fun x=>D.bl (f x))=some (l.map f)
 | []=>rfl
 | a::l=>by rw [aO,lB,BY f l];rfl
theorem Q_ {α:Type} (f:α→Bool) (l:List α):vU .all (.lst (l.map fun x=>D.bl (f x)))=some (.bl (l.all f)):=by
 have e:vU .all (.lst (l.map fun x=>D.bl (f x)))=(lB (l.map fun x=>D.bl (f x))).bind fun b=>some (.bl (b.all id)):=rfl
 rw [e,BY]
 show some (D.bl ((l.map f).all id))=_
 rw [x_];rfl
theorem CS {q:List Nat} {l:List (List Nat)}:Gn (iE (q::l)) (.int 0)=some (iL q):=rfl
noncomputable def iH (q:List Nat) (l:List (List Nat)) (i:Nat):Bool:=(q::l).all fun x=>aA x i == aA q i
theorem E1 {q:List Nat} {l:List (List Nat)} {i:Nat} (h:∀w∈q::l,i < w.length):bQ 3 rq [iE (q::l),iN i]=some (.bl (iH q l i)):=by
 refine bg (aX (fV (eG (eT (af rfl)) (dD iL (fun x=>D.bl (aA x i == aA q i)) (q::l) fun x hx=>⟨_,rfl,kW,bx (eA (af rfl) (af rfl) (jQ (h x hx))) (eA (eA (af rfl) a_ CS) (af rfl) (jQ (h q (by simp)))) ?_⟩)) (Q_ _ _)))
 exact fT
noncomputable def iX:List D→Option D:=kI (fun x:(List Nat×List (List Nat))×Nat=>[iE (x.1.1::x.1.2),iN x.2]) (fun x=>∀w∈x.1.1::x.1.2,x.2 < w.length) (fun x=>.bl (iH x.1.1 x.1.2 x.2))
theorem sY {q:List Nat} {l:List (List Nat)} {i:Nat} (h:∀w∈q::l,i < w.length):iX [iE (q::l),iN i]=some (.bl (iH q l i)) :=
 b4 (x:=((q,l),i)) h fun y h hy=>by
  obtain ⟨⟨a,b⟩,c⟩:=y
  injection h with h1 h;injection h with h2 h
  have e:=rk h1
  injection e with e1 e2
  have e1:a=q:=e1
  have e2:b=l:=e2
  have e3:c=i:=cx h2
  rw [e1,e2,e3]
theorem GQ:∀ds d,iX ds=some d→bQ 3 rq ds=some d:=fun ds d h=>by
 obtain ⟨x,rfl,hp,rfl⟩:=bj h
 exact E1 hp
theorem xN {g:ag} (ok:cP g):∀(m y:Nat) (l:List (List Nat)),(∀q∈l,Wy.Row g.n q)→∀w∈jd g.n g.town g.clues m y l,(∀q∈w,Wy.Row g.n q)∧w.length=l.length+m
 | 0,y,l,hl,w,hw=>by
  unfold jd at hw
  rw [b3] at hw
  subst hw
  exact ⟨hl,rfl⟩
 | m+1,y,l,hl,w,hw=>by
  unfold jd at hw
  rw [gX] at hw
  obtain ⟨r,hr,hw⟩:=hw
  rw [cN] at hr
  have Xv:=(uh ok (k:=3) (i:=y)).1 r hr.1
  obtain ⟨h1,h2⟩:=xN ok m (y+1) (l++[r]) (fun q hq=>by
   rcases bG.mp hq with hq|hq
   ·exact hl q hq
   ·rw [b3] at hq
    subst hq
    exact Xv) w hw
  refine ⟨h1,?_⟩
  rw [h2,ax]
  show l.length+1+m=_
  omega
theorem qA {g:ag} (ok:cP g):∀w∈bb g,w.length=g.n*g.n∧∀x∈w,1≤x∧x≤g.n:=by
 intro w hw
 unfold bb oo at hw
 have hw:=(cN.mp hw).1
 rw [bf] at hw
 obtain ⟨l,hl,rfl⟩:=hw
 obtain ⟨h1,h2⟩:=xN ok g.n 0 [] (fun q hq=>by simp at hq) l hl
 refine ⟨?_,fun x hx=>?_⟩
 ·rw [jj fun q hq=>(h1 q hq).1,h2];simp
 ·rw [PD] at hx
  obtain ⟨q,hq,hx⟩:=hx
  exact (h1 q hq).2 x hx
theorem jo {l:List (List Nat)}:vU .len (iE l)=some (iN l.length):=by
 show some (D.int ((l.map iL).length:Nat))=_
 rw [ah];rfl
theorem CU {l:List (List Nat)} {i:Nat} {w:List Nat} (h:l[i]?=some w):Gn (iE l) (iN i)=some (iL w):=by
 show (l.map iL)[i]?=_
 rw [b8,h];rfl
noncomputable def mC:Ss:=(.cons (.ret (.lst (.cons (.un .len (.call "town_ways" dF (.cons (.var 0) .nil))) .nil)) []) .nil)
theorem vn {g:ag} (ok:cP g):bQ 1 mC [tD g]=some (dq (told g .count)) :=
 bg (aX (cE (ai (fV (aM (ai (af rfl) ay) (gb ok)) jo) ay)))
noncomputable def pb:Ss:=(.cons (.asg 2 (.call "town_ways" dF (.cons (.var 0) .nil)) []) (.cons (.jL (.op .ge (.var 1) (.un .len (.var 2))) (.cons (.ret (.lst (.cons (.gl "NONE_THERE" (.int (-2))) .nil)) []) .nil) .nil) (.cons (.ret (.op .add (.lst (.cons (.un .len (.ix (.var 2) (.var 1))) .nil)) (.ix (.var 2) (.var 1))) []) .nil)))
theorem ni {x:Nat} {l:List Nat} (h:l.length≤999):i9 .add (.lst [iN x]) (iL l)=some (iL (x::l)):=mx (a:=[x]) (by show 1+l.length≤1000;omega)
theorem yU {g:ag} {k:Nat} (ok:cP g):bQ 3 pb [tD g,iN k]=some (dq (told g (.nth k))):=by
 have hn:=ok.hi
 have ec:bH (.op .ge (.var 1) (.un .len (.var 2))) (bA [.fz (tD g),.fz (iN k),.fz (iE (bb g))])=some (.bl (decide ((bb g).length≤k))):=bx (af rfl) (fV (af rfl) jo) Pk
 refine bg ((cH (aM (ai (af rfl) ay) (gb ok))).trans ?_)
 have et:told g (.nth k)=match (bb g)[k]? with|some l=>vP l|none=>aw (-2):=by
  show (match (bb g)[k]? with|some l=>_|none=>_:Option aE×aW).2=_
  cases (bb g)[k]?<;>rfl
 rw [et]
 by_cases h:(bb g).length≤k
 ·rw [decide_eq_true h] at ec
  rw [b0 h]
  exact (bJ ec (aX (cE (ai bZ ay)))).trans rfl
 ·rw [decide_eq_false h] at ec
  obtain ⟨w,hw⟩:∃w,(bb g)[k]?=some w:=⟨_,au (by omega)⟩
  rw [hw]
  have hl:=(qA ok w (b7 hw)).1
  have:g.n*g.n≤4*4:=kZ hn hn
  exact (aI ec).trans ((aX (bx (cE (ai (fV (eA (af rfl) (af rfl) (CU hw)) ig) ay)) (eA (af rfl) (af rfl) (CU hw)) (ni (by omega)))).trans rfl)
noncomputable def n6:Ss:=(.cons (.jL (.not (.call "is_cell" h9 (.cons (.var 0) (.cons (.var 1) .nil)))) (.cons (.ret (.lst (.cons (.gl "NO_SUCH" (.int (-22))) .nil)) []) .nil) .nil) (.cons (.asg 2 (.call "town_ways" dF (.cons (.var 0) .nil)) []) (.cons (.jL (.op .eq (.un .len (.var 2)) (.int 0)) (.cons (.ret (.lst (.cons (.gl "NO_WAY" (.int (-33))) .nil)) []) .nil) .nil) (.cons (.jL (.not (.call "is_same" iX (.cons (.var 2) (.cons (.var 1) .nil)))) (.cons (.ret (.lst (.cons (.gl "UNSURE" (.int (-6))) .nil)) []) .nil) .nil) (.cons (.ret (.lst (.cons (.ix (.ix (.var 2) (.int 0)) (.var 1)) .nil)) []) .nil)))))
theorem wI {g:ag} {i:Nat} (ok:cP g):bQ 3 n6 [tD g,iN i]=some (dq (told g (.sure i))):=by
 by_cases h:i < g.n*g.n
 ·refine bg ((aI ((oJ ok rfl rfl).trans (by rw [decide_eq_true h];rfl))).trans ((cH (aM (ai (af rfl) ay) (gb ok))).trans ?_))
  have et:told g (.sure i)=match bb g with|[]=>aw (-33)|q::l=>aw (if ((q::l).all fun x=>aA x i == aA q i)=true then (aA q i:Nat) else (-6)):=by
   show (if g.n*g.n≤i then _ else (match bb g with|[]=>_|q::l=>_):Option aE×aW).2=_
   rw [if_neg (by omega)]
   cases bb g<;>rfl
  rw [et]
  have gk:=qA ok
  generalize bb g=A at gk ⊢
  cases A with
  | nil=>exact (bJ (bx (fV (af rfl) jo) a_ (fT (b:=0))) (aX (cE (ai bZ ay)))).trans rfl
  | cons q l =>
   have hl:∀w∈q::l,i < w.length:=fun w hw=>by rw [(gk w hw).1];exact h
   refine (aI (bx (fV (af rfl) jo) a_ (fT (b:=0)))).trans ?_
   have ec:bH (.not (.call "is_same" iX (.cons (.var 2) (.cons (.var 1) .nil)))) (bA [.fz (tD g),.fz (iN i),.fz (iE (q::l))])=some (.bl !(iH q l i)):=v7 (aM (ai (af rfl) (ai (af rfl) ay)) (sY hl))
   show _=some (Out.rt (dq (aw (if iH q l i=true then _ else _))))
   cases hs:iH q l i with
   | true =>
    rw [hs] at ec
    exact (aI ec).trans ((aX (cE (ai (eA (eA (af rfl) a_ CS) (af rfl) (jQ (hl q (by simp)))) ay))).trans rfl)
   | false =>
    rw [hs] at ec
    exact (bJ ec (aX (cE (ai bZ ay)))).trans rfl
 ·refine bg ((bJ ((oJ ok rfl rfl).trans (by rw [decide_eq_false h];rfl)) (aX (cE (ai bZ ay)))).trans ?_)
  have e:told g (.sure i)=aw (-22):=by
   show (if g.n*g.n≤i then _ else _:Option aE×aW).2=_
   rw [if_pos (by omega)]
  rw [e];rfl
noncomputable def rz:Ss:=(.cons (.ret (.call "as_bits" oI (.cons (.comp (.nm 2) (.lst (.var 0)) .no (.ix (.var 2) (.var 1))) .nil)) []) .nil)
theorem E2 {A:List (List Nat)} {i:Nat} (h:∀w∈A,i < w.length∧∀x∈w,1≤x∧x≤1000):bQ 3 rz [iE A,iN i]=some (iN (ly (A.map fun w=>aA w i))):=by
 refine bg (aX (aM (ai ((eG (eT (af rfl)) (dD iL (fun w=>iN (aA w i)) A fun w hw=>⟨_,rfl,kW,eA (af rfl) (af rfl) (jQ (h w hw).1)⟩)).trans (by rw [jR])) ay) (yJ ?_)))
 intro x hx
 rw [bf] at hx
 obtain ⟨w,hw,rfl⟩:=hx
 have hm:aA w i∈w:=by
  unfold aA
  rw [ak,au (h w hw).1]
  exact cS _
 exact (h w hw).2 _ hm
noncomputable def oM:List D→Option D:=kI (fun x:List (List Nat)×Nat=>[iE x.1,iN x.2]) (fun x=>∀w∈x.1,x.2 < w.length∧∀y∈w,1≤y∧y≤1000) (fun x=>iN (ly (x.1.map fun w=>aA w x.2)))
theorem yV {A:List (List Nat)} {i:Nat} (h:∀w∈A,i < w.length∧∀x∈w,1≤x∧x≤1000):oM [iE A,iN i]=some (iN (ly (A.map fun w=>aA w i))) :=
 b4 (x:=(A,i)) h fun y h hy=>by
  obtain ⟨a,b⟩:=y
  injection h with h1 h;injection h with h2 h
  rw [rk h1,cx h2]
theorem GR:∀ds d,oM ds=some d→bQ 3 rz ds=some d:=fun ds d h=>by
 obtain ⟨x,rfl,hp,rfl⟩:=bj h
 exact E2 hp
noncomputable def mE:Ss:=(.cons (.jL (.not (.call "is_cell" h9 (.cons (.var 0) (.cons (.var 1) .nil)))) (.cons (.ret (.lst (.cons (.gl "NO_SUCH" (.int (-22))) .nil)) []) .nil) .nil) (.cons (.ret (.lst (.cons (.call "bits_at" oM (.cons (.call "town_ways" dF (.cons (.var 0) .nil)) (.cons (.var 1) .nil))) .nil)) []) .nil))
theorem vo {g:ag} {i:Nat} (ok:cP g):bQ 2 mE [tD g,iN i]=some (dq (told g (.could i))):=by
 have hn:=ok.hi
 by_cases h:i < g.n*g.n
 ·refine bg ((aI ((oJ ok rfl rfl).trans (by rw [decide_eq_true h];rfl))).trans ((aX (cE (ai (aM (ai (aM (ai (af rfl) ay) (gb ok)) (ai (af rfl) ay)) (yV fun w hw=>⟨by rw [(qA ok w hw).1];exact h,fun x hx=>by have:=(qA ok w hw).2 x hx;omega⟩)) ay))).trans ?_))
  have e:told g (.could i)=aw (ly ((bb g).map fun w=>aA w i):Nat):=by
   show (if g.n*g.n≤i then _ else _:Option aE×aW).2=_
   rw [if_neg (by omega)]
  rw [e];rfl
 ·refine bg ((bJ ((oJ ok rfl rfl).trans (by rw [decide_eq_false h];rfl)) (aX (cE (ai bZ ay)))).trans ?_)
  have e:told g (.could i)=aw (-22):=by
   show (if g.n*g.n≤i then _ else _:Option aE×aW).2=_
   rw [if_pos (by omega)]
  rw [e];rfl
noncomputable def mF:Ss:=(.cons (.asg 1 (.call "town_ways" dF (.cons (.var 0) .nil)) []) (.cons (.jL (.op .eq (.un .len (.var 1)) (.int 0)) (.cons (.ret (.lst (.cons (.gl "NO_WAY" (.int (-33))) .nil)) []) .nil) .nil) (.cons (.asg 2 (.comp (.nm 3) (.pW (.un .len (.fld (.var 0) "cells"))) (.yes (.call "is_same" iX (.cons (.var 1) (.cons (.var 3) .nil)))) (.var 3)) []) (.cons (.ret (.op .add (.lst (.cons (.un .len (.var 2)) .nil)) (.var 2)) []) .nil))))
theorem vp {g:ag} (ok:cP g):bQ 4 mF [tD g]=some (dq (told g .known)):=by
 have hn:=ok.hi
 have hnn:g.n*g.n≤4*4:=kZ hn hn
 refine bg ((cH (aM (ai (af rfl) ay) (gb ok))).trans ?_)
 have et:told g .known=match bb g with|[]=>aw (-33)|q::l=>vP ((aq (g.n*g.n)).filter fun i=>(q::l).all fun x=>aA x i == aA q i):=by
  show (match bb g with|[]=>_|q::l=>_:Option aE×aW).2=_
  cases bb g<;>rfl
 rw [et]
 have gk:=qA ok
 generalize bb g=A at gk ⊢
 cases A with
 | nil=>exact (bJ (bx (fV (af rfl) jo) a_ (fT (b:=0))) (aX (cE (ai bZ ay)))).trans rfl
 | cons q l =>
  refine (aI (bx (fV (af rfl) jo) a_ (fT (b:=0)))).trans ?_
  have el:vU .len (iL g.town)=some (iN (g.n*g.n)):=by rw [ig,ok.town]
  have e2:bH (.comp (.nm 3) (.pW (.un .len (.fld (.var 0) "cells"))) (.yes (.call "is_same" iX (.cons (.var 1) (.cons (.var 3) .nil)))) (.var 3)) (view (freeze [] [.fz (tD g),.fz (iE (q::l)),.no,.no]))=some (iL ((aq (g.n*g.n)).filter (iH q l))) :=
   (eG (jc (fV (cq (af rfl) (eP g)) el) (rP (by omega))) (iD iN (iH q l) iN (aq (g.n*g.n)) fun i hi=>⟨_,rfl,oX (aM (ai (af rfl) (ai (af rfl) ay)) (sY fun w hw=>by rw [(gk w hw).1];exact aT.mp hi)),fun _=>af rfl⟩)).trans rfl
  have hlen:((aq (g.n*g.n)).filter (iH q l)).length≤16:=by
   have:=gc (iH q l) (aq (g.n*g.n))
   rw [aQ] at this
   omega
  exact (cH e2).trans ((aX (bx (cE (ai (fV (af rfl) ig) ay)) (af rfl) (ni (l:=(aq (g.n*g.n)).filter (iH q l)) (by omega)))).trans rfl)
end Tn
namespace Tn
open PySem Mi
noncomputable def GS (l:List Int):D:=.lst (l.map .int)
noncomputable def sgn (n b:Nat):Int:=match gu n b with
 | some v=>v
 | none=>-1
noncomputable def nj:Ss:=(.cons (.jL (.op .eq (.var 1) (.gl "DOT" (.int 46))) (.cons (.ret (.int 0) []) .nil) .nil) (.cons (.jL (.and (.cons (.op .gt (.var 1) (.gl "DIGIT_ZERO" (.int 48))) (.cons (.op .le (.var 1) (.op .add (.gl "DIGIT_ZERO" (.int 48)) (.var 0))) .nil))) (.cons (.ret (.op .sub (.var 1) (.gl "DIGIT_ZERO" (.int 48))) []) .nil) .nil) (.cons (.ret (.gl "NO_SIGN" (.int (-1))) []) .nil)))
theorem Ax (n b:Nat):bQ 2 nj [iN n,iN b]=some (.int (sgn n b)):=by
 have e1:bH (.op .eq (.var 1) (.gl "DOT" (.int 46))) (bA [.fz (iN n),.fz (iN b)])=some (.bl (decide (b=46))):=bx (af rfl) bZ (fT (b:=46))
 have e2:bH (.and (.cons (.op .gt (.var 1) (.gl "DIGIT_ZERO" (.int 48))) (.cons (.op .le (.var 1) (.op .add (.gl "DIGIT_ZERO" (.int 48)) (.var 0))) .nil))) (bA [.fz (iN n),.fz (iN b)])=some (.bl (decide (48 < b)&&decide (b≤48+n))) :=
  vc (bx (af rfl) bZ (jD (b:=48))) fun _=>bx (af rfl) (bx bZ (af rfl) (eH (a:=48))) Uo
 refine bg ?_
 unfold sgn gu
 by_cases h:b=46
 ·rw [decide_eq_true h] at e1
  rw [if_pos h]
  exact (bJ e1 (aX a_)).trans rfl
 ·rw [decide_eq_false h] at e1
  rw [if_neg h]
  refine (aI e1).trans ?_
  by_cases h2:49≤b∧b≤48+n
  ·rw [decide_eq_true (show 48 < b by omega),decide_eq_true h2.2] at e2
   rw [if_pos h2]
   refine (bJ e2 (aX (bx (af rfl) bZ rfl))).trans ?_
   have:(b:Int) - 48=((b - 48:Nat):Int):=by omega
   show some (Out.rt (D.int ((b:Int) - 48)))=_
   rw [this]
  ·have e3:(decide (48 < b)&&decide (b≤48+n))=false:=by
    rw [lz,decide_eq_false_iff_not,decide_eq_false_iff_not]
    omega
   rw [e3] at e2
   rw [if_neg h2]
   exact (aI e2).trans (aX bZ)
noncomputable def nq:List D→Option D:=kI (fun x:Nat×Nat=>[iN x.1,iN x.2]) (fun x=>True) (fun x=>.int (sgn x.1 x.2))
theorem CV (n b:Nat):nq [iN n,iN b]=some (.int (sgn n b)) :=
 b4 (x:=(n,b)) trivial fun y h hy=>by
  obtain ⟨a,c⟩:=y
  injection h with h1 h;injection h with h2 h
  rw [cx h1,cx h2]
theorem CW:∀ds d,nq ds=some d→bQ 2 nj ds=some d:=fun ds d h=>by
 obtain ⟨x,rfl,hp,rfl⟩:=bj h
 exact Ax x.1 x.2
noncomputable def lL:Ss:=(.cons (.ret (.comp (.nm 2) (.lst (.var 1)) .no (.call "read_sign" nq (.cons (.var 0) (.cons (.var 2) .nil)))) []) .nil)
theorem yW (n:Nat) (l:List Nat):bQ 3 lL [iN n,iL l]=some (GS (l.map (sgn n))):=by
 refine bg (aX ((eG (eT (af rfl)) (dD iN (fun b=>.int (sgn n b)) l fun b _=>⟨_,rfl,kW,aM (ai (af rfl) (ai (af rfl) ay)) (CV n b)⟩)).trans ?_))
 unfold GS;rw [ba];rfl
noncomputable def iY:List D→Option D:=kI (fun x:Nat×List Nat=>[iN x.1,iL x.2]) (fun x=>True) (fun x=>GS (x.2.map (sgn x.1)))
theorem sf (n:Nat) (l:List Nat):iY [iN n,iL l]=some (GS (l.map (sgn n))) :=
 b4 (x:=(n,l)) trivial fun y h hy=>by
  obtain ⟨a,c⟩:=y
  injection h with h1 h;injection h with h2 h
  rw [cx h1,gg h2]
theorem Ay:∀ds d,iY ds=some d→bQ 3 lL ds=some d:=fun ds d h=>by
 obtain ⟨x,rfl,hp,rfl⟩:=bj h
 exact yW x.1 x.2
noncomputable def lh:Ss:=(.cons (.jL (.op .eq (.var 3) (.gl "LINE_END" (.int 10))) (.cons (.app 1 (.var 2) [2]) (.cons (.own 2 (.lst .nil) []) .nil)) (.cons (.app 2 (.var 3) []) .nil)) .nil)
noncomputable def lM:Ss:=(.cons (.own 1 (.lst .nil) []) (.cons (.own 2 (.lst .nil) []) (.cons (.jM (.nm 3) (.lst (.var 0)) [] lh) (.cons (.jL (.op .gt (.un .len (.var 2)) (.int 0)) (.cons (.app 1 (.var 2) [2]) .nil) .nil) (.cons (.ret (.var 1) [1]) .nil)))))
noncomputable def cut (s:List (List Nat)×List Nat) (b:Nat):List (List Nat)×List Nat:=if b=10 then (s.1++[s.2],[]) else (s.1,s.2++[b])
theorem E3 (t:List Nat):e_ 10 t≠[]:=by
 cases t with
 | nil=>exact fun h=>nomatch h
 | cons c r =>
  unfold e_
  split
  ·exact fun h=>nomatch h
  ·split
   ·exact fun h=>nomatch h
   ·exact fun h=>nomatch h
theorem vq:∀(t:List Nat) (ls:List (List Nat)) (l:List Nat),((t.foldl cut (ls,l)).1++[(t.foldl cut (ls,l)).2])=ls++((l++(e_ 10 t).headD [])::(e_ 10 t).tail)
 | [],ls,l=>by simp [e_]
 | b::t,ls,l=>by
  rw [b9]
  have k6:=E3 t
  by_cases h:b=10
  ·have e:cut (ls,l) b=(ls++[l],[]):=by unfold cut;rw [if_pos h]
   rw [e,vq t]
   rw [e_]
   cases hs:e_ 10 t with
   | nil=>exact absurd hs k6
   | cons p q=>simp [h]
  ·have e:cut (ls,l) b=(ls,l++[b]):=by unfold cut;rw [if_neg h]
   rw [e,vq t]
   rw [e_]
   cases hs:e_ 10 t with
   | nil=>exact absurd hs k6
   | cons p q=>simp [h]
noncomputable def done (s:List (List Nat)×List Nat):List (List Nat):=if s.2.length=0 then s.1 else s.1++[s.2]
theorem JM (t:List Nat):done (t.foldl cut ([],[]))=fP t:=by
 have h:=vq t [] []
 rw [fC,fC] at h
 have hs:(e_ 10 t).headD []::(e_ 10 t).tail=e_ 10 t:=by
  cases hs:e_ 10 t with
  | nil=>exact absurd hs (E3 t)
  | cons p q=>rfl
 rw [hs] at h
 unfold done fP
 simp only []
 rw [←h]
 have h1:((t.foldl cut ([],[])).1++[(t.foldl cut ([],[])).2]).getLastD []=(t.foldl cut ([],[])).2:=by
  rw [FQ,List.getLast?_append];rfl
 rw [h1,List.dropLast_append]
 by_cases hz:(t.foldl cut ([],[])).2=[]
 ·rw [if_pos hz,if_pos (by rw [hz];rfl)]
  simp
 ·rw [if_neg hz,if_neg (fun z=>hz (Hk.mp z))]
theorem yX {t:List Nat} (ht:t.length≤1000):bQ 4 lM [iL t]=some (iE (fP t)):=by
 have hz:(1000:Nat)≤sizeLine:=by decide
 obtain ⟨s',h,Xw,x,rfl⟩:=dE (t:=.nm 3) (body:=cf lh) iN cut
  (fun b r s=>b.1.length+b.2.length+r.length≤1000∧∃x,s=[.fz (iL t),.ow (b.1.map iL),.ow (b.2.map iN),x])
  (fun b a r s ⟨hb,x,hs⟩=>by
   subst hs
   rw [az] at hb
   have ec:bH (.op .eq (.var 3) (.gl "LINE_END" (.int 10))) (bA [.fz (iL t),.ow (b.1.map iL),.ow (b.2.map iN),.fz (iN a)])=some (.bl (decide (a=10))):=bx (af rfl) bZ (fT (b:=10))
   unfold cut
   by_cases h:a=10
   ·rw [decide_eq_true h] at ec
    rw [if_pos h]
    refine ⟨_,[.fz (iL t),.ow ((b.1++[b.2]).map iL),.ow ([].map iN),.fz (iN a)],rfl,?_,by simp;omega,_,rfl⟩
    refine (jP ec ((yD (d:=iL b.2) (s1:=[.fz (iL t),.ow ((b.1++[b.2]).map iL),.fz (iL b.2),.fz (iN a)]) (af rfl) ?_).trans ((oY (cE ay)).trans rfl))).trans rfl
    show (if (b.1.map iL).length+1≤sizeLine then some _ else none)=_
    rw [if_pos (by rw [ah];omega),bq]
    rfl
   ·rw [decide_eq_false h] at ec
    rw [if_neg h]
    refine ⟨_,[.fz (iL t),.ow (b.1.map iL),.ow ((b.2++[a]).map iN),.fz (iN a)],rfl,?_,by simp;omega,_,rfl⟩
    refine (EF ec ((yD (d:=iN a) (s1:=[.fz (iL t),.ow (b.1.map iL),.ow ((b.2++[a]).map iN),.fz (iN a)]) (af rfl) ?_).trans rfl)).trans rfl
    show (if (b.2.map iN).length+1≤sizeLine then some _ else none)=_
    rw [if_pos (by rw [ah];omega),bq]
    rfl) t ([],[]) [.fz (iL t),.ow [],.ow [],.no] ⟨by simpa using ht,.no,rfl⟩
 rw [←JM]
 generalize t.foldl cut ([],[])=st at h Xw ⊢
 obtain ⟨ls,l⟩:=st
 simp only at h Xw
 have ec:bH (.op .gt (.un .len (.var 2)) (.int 0)) (bA [.fz (iL t),.ow (ls.map iL),.ow (l.map iN),x])=some (.bl (decide (0 < l.length))):=by
  refine bx (fV (af ?_) (ig (l:=l))) a_ (jD (b:=0))
  cases x<;>rfl
 refine bg ((oY (cE ay)).trans ((oY (cE ay)).trans ((fv (eT (af rfl)) h).trans ?_)))
 unfold done
 by_cases hl:l.length=0
 ·rw [decide_eq_false (by omega)] at ec
  rw [if_pos hl]
  refine (aI ec).trans (aX (af ?_))
  cases x<;>rfl
 ·rw [decide_eq_true (by omega)] at ec
  rw [if_neg hl]
  refine (jP (s1:=[.fz (iL t),.ow ((ls++[l]).map iL),.fz (iL l),x]) ec ((yD (d:=iL l) (s1:=[.fz (iL t),.ow ((ls++[l]).map iL),.fz (iL l),x]) (af ?_) ?_).trans rfl)).trans (aX (af ?_))
  ·cases x<;>rfl
  ·show (if (ls.map iL).length+1≤sizeLine then some _ else none)=_
   rw [if_pos (by rw [ah];simp at Xw;omega),bq]
   rfl
  ·cases x<;>rfl
noncomputable def jW:List D→Option D:=kI (fun x:List Nat=>[iL x]) (fun x=>x.length≤1000) (fun x=>iE (fP x))
theorem Az {t:List Nat} (ht:t.length≤1000):jW [iL t]=some (iE (fP t)) :=
 b4 (x:=t) ht fun y h hy=>by
  injection h with h1 h
  rw [gg h1]
theorem AA:∀ds d,jW ds=some d→bQ 4 lM ds=some d:=fun ds d h=>by
 obtain ⟨x,rfl,hp,rfl⟩:=bj h
 exact yX hp
end Tn
namespace Tn
open PySem Mi
noncomputable def Form (n:Nat) (L:List (List Nat)):Prop:=L.length=n+2∧∀l∈L,l.length=n+2
theorem uk (n:Nat) (L:List (List Nat)):L.map mq=aH (n+2) (n+2) ↔ Form n L:=by
 unfold Form
 rw [List.eq_replicate_iff,ah]
 constructor
 ·rintro ⟨h1,h2⟩
  exact ⟨h1,fun l hl=>h2 _ (bf.mpr ⟨l,hl,rfl⟩)⟩
 ·rintro ⟨h1,h2⟩
  refine ⟨h1,fun b hb=>?_⟩
  obtain ⟨l,hl,rfl⟩:=bf.mp hb
  exact h2 l hl
noncomputable def pd:Ss:=(.cons (.jL (.op .ne (.comp (.nm 3) (.lst (.var 1)) .no (.un .len (.var 3))) (.op .mul (.lst (.cons (.op .add (.var 0) (.int 2)) .nil)) (.op .add (.var 0) (.int 2)))) (.cons (.ret (.bl false) []) .nil) .nil) (.cons (.asg 2 (.lst (.cons (.ix (.ix (.var 1) (.int 0)) (.int 0)) (.cons (.ix (.ix (.var 1) (.int 0)) (.op .add (.var 0) (.int 1))) (.cons (.ix (.ix (.var 1) (.op .add (.var 0) (.int 1))) (.int 0)) (.cons (.ix (.ix (.var 1) (.op .add (.var 0) (.int 1))) (.op .add (.var 0) (.int 1))) .nil))))) []) (.cons (.ret (.op .eq (.var 2) (.op .mul (.lst (.cons (.gl "BLANK" (.int 32)) .nil)) (.int 4))) []) .nil)))
theorem cast_eq {a b:List Nat}:decide ((a.map fun x:Nat=>(x:Int))=b.map fun x:Nat=>(x:Int))=decide (a=b):=by
 apply decide_eq_decide.mpr
 constructor
 ·exact fun h=>map_inj (fun x y e=>by omega) h
 ·exact fun h=>by rw [h]
theorem Uq {a b:List Nat}:i9 .eq (iL a) (iL b)=some (.bl (decide (a=b))):=by
 have e:i9 .eq (iL a) (iL b)=((intsOf (a.map iN)).bind fun x=>(intsOf (b.map iN)).bind fun y=>some (decide (x=y))).bind (fun c=>some (D.bl c)):=rfl
 rw [e,gN,gN]
 simp only [bz,cast_eq]
theorem Ur {a b:List Nat}:i9 .ne (iL a) (iL b)=some (.bl (!decide (a=b))):=by
 have e:i9 .ne (iL a) (iL b)=((intsOf (a.map iN)).bind fun x=>(intsOf (b.map iN)).bind fun y=>some (decide (x=y))).bind (fun c=>some (D.bl (!c))):=rfl
 rw [e,gN,gN]
 simp only [bz,cast_eq]
theorem um {α:Type} (x:α):∀k:Nat,(aH k [x]).flatten=aH k x
 | 0=>rfl
 | k+1=>by rw [cM,bB,um x k,cM];rfl
theorem LP {x k:Nat} (h:k≤1000):i9 .mul (.lst [iN x]) (iN k)=some (iL (aH k x)):=by
 have hz:(1000:Nat)≤sizeLine:=by decide
 simp only [iN,i9]
 rw [if_pos ⟨by omega,by omega,by rw [ja];show 1*k≤_;omega⟩,ja,um]
 unfold iL
 rw [Nc];rfl
noncomputable def CY (n:Nat) (L:List (List Nat)):List Nat:=[(L.getD 0 []).getD 0 0,(L.getD 0 []).getD (n+1) 0,(L.getD (n+1) []).getD 0 0,(L.getD (n+1) []).getD (n+1) 0]
noncomputable def qB (n:Nat) (L:List (List Nat)):Bool:=decide (L.map mq=aH (n+2) (n+2))&&decide (CY n L=[32,32,32,32])
theorem Vs {L:List (List Nat)} {k:Nat} (h:k < L.length):Gn (iE L) (iN k)=some (iL (L.getD k [])):=CU (by rw [au h,ak,au h];rfl)
theorem jX {L:List (List Nat)} {k m:Nat} (h:k < L.length) (hl:∀l∈L,l.length=m):(L.getD k []).length=m:=by
 apply hl
 rw [ak,au h]
 exact cS _
theorem CZ {n:Nat} {L:List (List Nat)} (hn:n≤4):bQ 4 pd [iN n,iE L]=some (.bl (qB n L)):=by
 have ec:bH (.op .ne (.comp (.nm 3) (.lst (.var 1)) .no (.un .len (.var 3))) (.op .mul (.lst (.cons (.op .add (.var 0) (.int 2)) .nil)) (.op .add (.var 0) (.int 2)))) (bA [.fz (iN n),.fz (iE L),.no,.no])=some (.bl (!decide (L.map mq=aH (n+2) (n+2)))) :=
  bx ((eG (eT (af rfl)) (dD iL (fun l=>iN l.length) L fun l _=>⟨_,rfl,kW,fV (af rfl) ig⟩)).trans (by rw [jR])) (bx (cE (ai (bx (af rfl) a_ (eH (b:=2))) ay)) (bx (af rfl) a_ (eH (b:=2))) (LP (by omega))) Ur
 refine bg ?_
 unfold qB
 by_cases h:L.map mq=aH (n+2) (n+2)
 ·rw [decide_eq_true h] at ec ⊢
  obtain ⟨h1,h2⟩:=(uk n L).mp h
  have z0:(L.getD 0 []).length=n+2:=jX (by omega) h2
  have z1:(L.getD (n+1) []).length=n+2:=jX (by omega) h2
  have i0:∀s:eM,fR s 1=some (iE L)→bH (.ix (.var 1) (.int 0)) s=some (iL (L.getD 0 [])):=fun s hs=>eA (af hs) a_ (Vs (k:=0) (by omega))
  have i1:∀s:eM,fR s 0=some (iN n)→fR s 1=some (iE L)→bH (.ix (.var 1) (.op .add (.var 0) (.int 1))) s=some (iL (L.getD (n+1) [])):=fun s h0 hs=>eA (af hs) (bx (af h0) a_ (eH (b:=1))) (Vs (by omega))
  have e2:bH (.lst (.cons (.ix (.ix (.var 1) (.int 0)) (.int 0)) (.cons (.ix (.ix (.var 1) (.int 0)) (.op .add (.var 0) (.int 1))) (.cons (.ix (.ix (.var 1) (.op .add (.var 0) (.int 1))) (.int 0)) (.cons (.ix (.ix (.var 1) (.op .add (.var 0) (.int 1))) (.op .add (.var 0) (.int 1))) .nil))))) (view (freeze [] [.fz (iN n),.fz (iE L),.no,.no]))=some (iL (CY n L)) :=
   (cE (ai (eA (i0 _ rfl) a_ (jQ (i:=0) (by omega))) (ai (eA (i0 _ rfl) (bx (af rfl) a_ (eH (b:=1))) (jQ (by omega))) (ai (eA (i1 _ rfl rfl) a_ (jQ (i:=0) (by omega))) (ai (eA (i1 _ rfl rfl) (bx (af rfl) a_ (eH (b:=1))) (jQ (by omega))) ay))))).trans rfl
  exact (aI ec).trans ((cH e2).trans (aX (bx (af rfl) (bx (cE (ai bZ ay)) a_ (LP (x:=32) (k:=4) (by omega))) Uq)))
 ·rw [decide_eq_false h] at ec ⊢
  exact (bJ ec (aX JG)).trans rfl
noncomputable def mG:List D→Option D:=kI (fun x:Nat×List (List Nat)=>[iN x.1,iE x.2]) (fun x=>x.1≤4) (fun x=>.bl (qB x.1 x.2))
theorem E4 {n:Nat} {L:List (List Nat)} (hn:n≤4):mG [iN n,iE L]=some (.bl (qB n L)) :=
 b4 (x:=(n,L)) hn fun y h hy=>by
  obtain ⟨a,c⟩:=y
  injection h with h1 h;injection h with h2 h
  rw [cx h1,rk h2]
theorem E5:∀ds d,mG ds=some d→bQ 4 pd ds=some d:=fun ds d h=>by
 obtain ⟨x,rfl,hp,rfl⟩:=bj h
 exact CZ hp
noncomputable def mid {α:Type} (n:Nat) (l:List α):List α:=(l.drop 1).take n
theorem GU {l:List Nat} {n:Nat} (h:l.length=n+2):J7 (iL l) (some 1) (some ((n+1:Nat):Int))=some (iL (mid n l)):=by
 have e:J7 (iL l) (some 1) (some ((n+1:Nat):Int))=some (.lst (((l.map iN).drop (min 1 (l.map iN).length)).take (min (n+1) (l.map iN).length - min 1 (l.map iN).length))):=rfl
 rw [e,ah,h,fI (by omega),fI (by omega),OK,←pV,←pU]
 rfl
theorem C0 {l:List (List Nat)} {n:Nat} (h:l.length=n+2):J7 (iE l) (some 1) (some ((n+1:Nat):Int))=some (iE (mid n l)):=by
 have e:J7 (iE l) (some 1) (some ((n+1:Nat):Int))=some (.lst (((l.map iL).drop (min 1 (l.map iL).length)).take (min (n+1) (l.map iL).length - min 1 (l.map iL).length))):=rfl
 rw [e,ah,h,fI (by omega),fI (by omega),OK,←pV,←pU]
 rfl
theorem jq {α:Type} {n:Nat} {l:List α} {x:α} (h:x∈mid n l):x∈l:=List.mem_of_mem_drop (tI h)
noncomputable def lj:Ss:=(.cons (.ext 2 (.call "read_signs" iY (.cons (.var 0) (.cons (.sl (.var 3) (.yes (.int 1)) (.yes (.op .add (.var 0) (.int 1)))) .nil))) []) .nil)
noncomputable def lN:Ss:=(.cons (.own 2 (.lst .nil) []) (.cons (.jM (.nm 3) (.lst (.sl (.var 1) (.yes (.int 1)) (.yes (.op .add (.var 0) (.int 1))))) [] lj) (.cons (.ret (.var 2) [2]) .nil)))
noncomputable def jx (n:Nat) (L:List (List Nat)):List Int:=(mid n L).flatMap fun l=>(mid n l).map (sgn n)
theorem BZ (f:List Nat→List Int):∀(L:List (List Nat)) (acc:List Int),L.foldl (fun acc l=>acc++f l) acc=acc++L.flatMap f
 | [],acc=>by simp
 | l::L,acc=>by rw [b9,BZ f L,b_,de]
theorem yY {n:Nat} {L:List (List Nat)} (hn:n≤4) (hL:Form n L):bQ 4 lN [iN n,iE L]=some (GS (jx n L)):=by
 have hz:(1000:Nat)≤sizeLine:=by decide
 obtain ⟨s',h,_,_,x,rfl⟩:=dE (t:=.nm 3) (body:=cf lj) iL (fun acc l=>acc++(mid n l).map (sgn n))
  (fun b r s=>b.length+r.length*4≤100∧(∀l∈r,l.length=n+2)∧∃x,s=[.fz (iN n),.fz (iE L),.ow (b.map D.int),x])
  (fun b l r s ⟨hb,hr,x,hs⟩=>by
   subst hs
   rw [az] at hb
   have hl:=hr l (by simp)
   have e1:bH (.call "read_signs" iY (.cons (.var 0) (.cons (.sl (.var 3) (.yes (.int 1)) (.yes (.op .add (.var 0) (.int 1)))) .nil))) (view (freeze [] [.fz (iN n),.fz (iE L),.ow (b.map D.int),.fz (iL l)]))=some (GS ((mid n l).map (sgn n))) :=
    aM (ai (af rfl) (ai (EE (af rfl) (pO a_) (pO (bx (af rfl) a_ (eH (b:=1)))) (GU hl)) ay)) (sf n (mid n l))
   have hm:(mid n l).length≤4:=by unfold mid;rw [c0];omega
   refine ⟨_,[.fz (iN n),.fz (iE L),.ow ((b++(mid n l).map (sgn n)).map D.int),.fz (iL l)],rfl,?_,by rw [ax,ah];omega,fun t ht=>hr t (by simp [ht]),_,rfl⟩
   refine (yE e1 ?_).trans rfl
   show (if (b.map D.int).length+(((mid n l).map (sgn n)).map D.int).length≤sizeLine then some _ else none)=_
   rw [if_pos (by rw [ah,ah,ah];omega),bq]
   rfl) (mid n L) [] [.fz (iN n),.fz (iE L),.ow [],.no] ⟨by
    have:(mid n L).length≤n:=by unfold mid;rw [c0];omega
    simp;omega,fun l hl=>hL.2 l (jq hl),.no,rfl⟩
 rw [BZ,fC] at h
 exact bg ((oY (cE ay)).trans ((fv (eT (EE (af rfl) (pO a_) (pO (bx (af rfl) a_ (eH (b:=1)))) (C0 hL.1))) h).trans (aX (af rfl))))
noncomputable def jY:List D→Option D:=kI (fun x:Nat×List (List Nat)=>[iN x.1,iE x.2]) (fun x=>x.1≤4∧Form x.1 x.2) (fun x=>GS (jx x.1 x.2))
theorem AB {n:Nat} {L:List (List Nat)} (hn:n≤4) (hL:Form n L):jY [iN n,iE L]=some (GS (jx n L)) :=
 b4 (x:=(n,L)) ⟨hn,hL⟩ fun y h hy=>by
  obtain ⟨a,c⟩:=y
  injection h with h1 h;injection h with h2 h
  rw [cx h1,rk h2]
theorem AD:∀ds d,jY ds=some d→bQ 4 lN ds=some d:=fun ds d h=>by
 obtain ⟨x,rfl,hp,rfl⟩:=bj h
 exact yY hp.1 hp.2
noncomputable def lO:Ss:=(.cons (.asg 2 (.sl (.ix (.var 1) (.int 0)) (.yes (.int 1)) (.yes (.op .add (.var 0) (.int 1)))) []) (.cons (.asg 3 (.comp (.nm 6) (.lst (.sl (.var 1) (.yes (.int 1)) (.yes (.op .add (.var 0) (.int 1))))) .no (.ix (.var 6) (.op .add (.var 0) (.int 1)))) []) (.cons (.asg 4 (.sl (.ix (.var 1) (.op .add (.var 0) (.int 1))) (.yes (.int 1)) (.yes (.op .add (.var 0) (.int 1)))) []) (.cons (.asg 5 (.comp (.nm 6) (.lst (.sl (.var 1) (.yes (.int 1)) (.yes (.op .add (.var 0) (.int 1))))) .no (.ix (.var 6) (.int 0))) []) (.cons (.ret (.call "read_signs" iY (.cons (.var 0) (.cons (.op .add (.op .add (.op .add (.var 2) (.var 3)) (.var 4)) (.var 5)) .nil))) []) .nil)))))
noncomputable def eQ (n:Nat) (L:List (List Nat)):List Nat:=mid n (L.getD 0 [])++(mid n L).map (fun l=>l.getD (n+1) 0)++mid n (L.getD (n+1) [])++(mid n L).map (fun l=>l.getD 0 0)
theorem yZ {n:Nat} {L:List (List Nat)} (hn:n≤4) (hL:Form n L):bQ 7 lO [iN n,iE L]=some (GS ((eQ n L).map (sgn n))):=by
 obtain ⟨h1,h2⟩:=hL
 have z0:(L.getD 0 []).length=n+2:=jX (by omega) h2
 have z1:(L.getD (n+1) []).length=n+2:=jX (by omega) h2
 have hm:∀l:List Nat,(mid n l).length≤4:=fun l=>by unfold mid;rw [c0];omega
 have hM:(mid n L).length≤4:=by unfold mid;rw [c0];omega
 have y1:∀ρ:eM,fR ρ 0=some (iN n)→J8 (.yes (.op .add (.var 0) (.int 1))) ρ=some (some ((n+1:Nat):Int)):=fun ρ h=>pO (bx (af h) a_ (eH (b:=1)))
 have a2:bH (.sl (.ix (.var 1) (.int 0)) (.yes (.int 1)) (.yes (.op .add (.var 0) (.int 1)))) (view (freeze [] [.fz (iN n),.fz (iE L),.no,.no,.no,.no,.no]))=some (iL (mid n (L.getD 0 []))) :=
  EE (eA (af rfl) a_ (Vs (k:=0) (by omega))) (pO a_) (y1 _ rfl) (GU z0)
 have a3:bH (.comp (.nm 6) (.lst (.sl (.var 1) (.yes (.int 1)) (.yes (.op .add (.var 0) (.int 1))))) .no (.ix (.var 6) (.op .add (.var 0) (.int 1)))) (view (freeze [] [.fz (iN n),.fz (iE L),.fz (iL (mid n (L.getD 0 []))),.no,.no,.no,.no]))=some (iL ((mid n L).map fun l=>l.getD (n+1) 0)) :=
  (eG (eT (EE (af rfl) (pO a_) (y1 _ rfl) (C0 h1))) (dD iL (fun l=>iN (l.getD (n+1) 0)) (mid n L) fun l hl=>⟨_,rfl,kW,eA (af rfl) (bx (af rfl) a_ (eH (b:=1))) (jQ (by rw [h2 l (jq hl)];omega))⟩)).trans (by rw [jR])
 have a4:bH (.sl (.ix (.var 1) (.op .add (.var 0) (.int 1))) (.yes (.int 1)) (.yes (.op .add (.var 0) (.int 1)))) (view (freeze [] [.fz (iN n),.fz (iE L),.fz (iL (mid n (L.getD 0 []))),.fz (iL ((mid n L).map fun l=>l.getD (n+1) 0)),.no,.no,.no]))=some (iL (mid n (L.getD (n+1) []))) :=
  EE (eA (af rfl) (bx (af rfl) a_ (eH (b:=1))) (Vs (by omega))) (pO a_) (y1 _ rfl) (GU z1)
 have a5:bH (.comp (.nm 6) (.lst (.sl (.var 1) (.yes (.int 1)) (.yes (.op .add (.var 0) (.int 1))))) .no (.ix (.var 6) (.int 0))) (view (freeze [] [.fz (iN n),.fz (iE L),.fz (iL (mid n (L.getD 0 []))),.fz (iL ((mid n L).map fun l=>l.getD (n+1) 0)),.fz (iL (mid n (L.getD (n+1) []))),.no,.no]))=some (iL ((mid n L).map fun l=>l.getD 0 0)) :=
  (eG (eT (EE (af rfl) (pO a_) (y1 _ rfl) (C0 h1))) (dD iL (fun l=>iN (l.getD 0 0)) (mid n L) fun l hl=>⟨_,rfl,kW,eA (af rfl) a_ (jQ (i:=0) (by rw [h2 l (jq hl)];omega))⟩)).trans (by rw [jR])
 have m0:=hm (L.getD 0 [])
 have m1:=hm (L.getD (n+1) [])
 refine bg ((cH a2).trans ((cH a3).trans ((cH a4).trans ((cH a5).trans (aX (aM (ai (af rfl) (ai (bx (bx (bx (af rfl) (af rfl) (mx ?_)) (af rfl) (mx ?_)) (af rfl) (mx ?_)) ay)) (sf n _)))))))
 ·rw [ah];omega
 ·rw [ax,ah];omega
 ·rw [ax,ax,ah,ah];omega
noncomputable def jZ:List D→Option D:=kI (fun x:Nat×List (List Nat)=>[iN x.1,iE x.2]) (fun x=>x.1≤4∧Form x.1 x.2) (fun x=>GS ((eQ x.1 x.2).map (sgn x.1)))
theorem AE {n:Nat} {L:List (List Nat)} (hn:n≤4) (hL:Form n L):jZ [iN n,iE L]=some (GS ((eQ n L).map (sgn n))) :=
 b4 (x:=(n,L)) ⟨hn,hL⟩ fun y h hy=>by
  obtain ⟨a,c⟩:=y
  injection h with h1 h;injection h with h2 h
  rw [cx h1,rk h2]
theorem AF:∀ds d,jZ ds=some d→bQ 7 lO ds=some d:=fun ds d h=>by
 obtain ⟨x,rfl,hp,rfl⟩:=bj h
 exact yZ hp.1 hp.2
end Tn
namespace Tn
open PySem Mi
noncomputable def val (n b:Nat):Nat:=(gu n b).getD 0
noncomputable def DQ (n b:Nat):Bool:=(gu n b).isSome
theorem Ra {n b:Nat} (h:DQ n b=true):sgn n b=(val n b:Int):=by
 unfold DQ at h
 unfold sgn val
 cases e:gu n b with
 | none=>rw [e] at h;cases h
 | some v=>rfl
theorem LQ {n b:Nat}:sgn n b=-1 ↔ DQ n b=false:=by
 unfold sgn DQ
 cases e:gu n b with
 | none=>simp
 | some v=>simp
theorem C1 {n b:Nat}:val n b≤n:=by
 unfold val gu
 split
 ·simp
 ·split
  ·simp;omega
  ·simp
theorem xO (n:Nat):∀l:List Nat,l.mapM (gu n)=if l.all (DQ n)=true then some (l.map (val n)) else none
 | []=>rfl
 | a::l=>by
  rw [List.mapM_cons,xO n l,dk]
  unfold DQ val
  cases e:gu n a with
  | none=>rfl
  | some v =>
   cases h:l.all (fun b=>(gu n b).isSome) with
   | true=>simp [e]
   | false=>simp
theorem C2 {n:Nat} {l:List Nat}:(-1:Int)∈l.map (sgn n) ↔ l.all (DQ n)=false:=by
 rw [bf]
 constructor
 ·rintro ⟨b,hb,e⟩
  rw [←qb,aZ]
  intro h
  have:=h b hb
  rw [LQ.mp e] at this
  cases this
 ·intro h
  rw [←qb,aZ] at h
  simp only [Classical.not_forall] at h
  obtain ⟨b,hb,h⟩:=h
  exact ⟨b,hb,LQ.mpr (by simpa using h)⟩
theorem Iv {n:Nat} {l:List Nat} (h:l.all (DQ n)=true):l.map (sgn n)=(l.map (val n)).map fun x:Nat=>(x:Int):=by
 rw [ba]
 apply bT
 intro b hb
 exact Ra (aZ.mp h b hb)
theorem ends {α:Type} (d:α):∀{l:List α} {n:Nat},l.length=n+2→l=l.getD 0 d::(mid n l++[l.getD (n+1) d])
 | [],n,h=>by simp at h
 | a::r,n,h=>by
  have hr:r.length=n+1:=by simpa using h
  show a::r=a::((r.take n)++[r.getD n d])
  congr 1
  have hg:r[n]?=some (r.getD n d):=by rw [ak,au (by omega)];rfl
  have:r.take (n+1)=r.take n++[r.getD n d]:=by rw [OJ,hg];rfl
  rw [←this,d7 (by omega)]
theorem nt {α:Type} {l:List α} {n:Nat} (h:l.length=n+2):(mid n l).length=n:=by
 unfold mid;rw [c0,Af];omega
theorem getD_map {α β:Type} (f:α→β) {l:List α} {i:Nat} {d:α} {e:β} (h:i < l.length):(l.map f).getD i e=f (l.getD i d):=by
 rw [ak,b8,au h,ak,au h];rfl
theorem LR {l:List Nat} {n x:Nat} (h:l.length=n+2) (hx:x < n):(mid n l).getD x 0=l.getD (1+x) 0:=by
 unfold mid
 rw [ak,List.getElem?_take,if_pos hx,List.getElem?_drop,←ak]
theorem uo {l:List Nat} {m:Nat} (h:l.length=m):l=(aq m).map fun p=>l.getD p 0:=by
 apply kT
 intro j
 rw [b8]
 by_cases hj:j < m
 ·rw [mW hj,au (by omega)]
  show _=some (l.getD j 0)
  rw [ak,au (by omega)];rfl
 ·rw [b0 (by omega),b0 (by rw [aQ];omega)];rfl
section
variable {n:Nat} {L:List (List Nat)}
noncomputable def y8 (n:Nat) (L:List (List Nat)):List Nat:=(mid n L).flatten.map (val n)
theorem E6 (hL:Form n L) {y j:Nat} (hy:y < n) (hj:j < n+2):(y8 n L).getD (y*(n+2)+j) 0=val n (((mid n L).getD y []).getD j 0):=by
 have hm:=nt hL.1
 have e:y8 n L=((mid n L).map fun l=>l.map (val n)).flatten:=by unfold y8;rw [List.map_flatten]
 have hl:∀l∈(mid n L).map fun l=>l.map (val n),l.length=n+2:=fun l hl=>by
  obtain ⟨q,hq,rfl⟩:=bf.mp hl
  rw [ah];exact hL.2 q (jq hq)
 obtain ⟨_,h2⟩:=jh (k:=y) (i:=j) hl (by rw [ah,hm];exact hy) hj
 rw [e,h2,getD_map (fun l=>l.map (val n)) (d:=[]) (by rw [hm];exact hy)]
 exact getD_map (val n) (d:=0) (by rw [jX (m:=n+2) (by rw [hm];exact hy) fun l hl=>hL.2 l (jq hl)];exact hj)
theorem Iw (h1:1≤n) (hL:Form n L):((aq (n*n)).map fun p=>(y8 n L).getD (p / n*(n+2)+1+p % n) 0)=(mid n L).flatMap fun l=>(mid n l).map (val n):=by
 have hm:=nt hL.1
 have hl:∀l∈(mid n L).map fun l=>(mid n l).map (val n),l.length=n:=fun l hl=>by
  obtain ⟨q,hq,rfl⟩:=bf.mp hl
  rw [ah];exact nt (hL.2 q (jq hq))
 have hc:((mid n L).flatMap fun l=>(mid n l).map (val n))=((mid n L).map fun l=>(mid n l).map (val n)).flatten:=rfl
 have hlen:((mid n L).map fun l=>(mid n l).map (val n)).flatten.length=n*n:=by rw [jj hl,ah,hm]
 rw [hc,uo hlen]
 apply bT
 intro p hp
 rw [aT] at hp
 have hy:p / n < n:=MN hp
 have hx:p % n < n:=xu _ (by omega)
 obtain ⟨_,h2⟩:=jh (k:=p / n) (i:=p % n) hl (by rw [ah,hm];exact hy) hx
 have hq:(mid n L).getD (p / n) []∈mid n L:=by
  rw [ak,au (by rw [hm];exact hy)]
  exact cS _
 have Xx:=hL.2 _ (jq hq)
 rw [wj,E6 hL hy (by omega)]
 have e:p / n*n+p % n=p:=by rw [e8];exact Nat.div_add_mod p n
 rw [←e,h2,getD_map (fun l=>(mid n l).map (val n)) (d:=[]) (by rw [hm];exact hy),getD_map (val n) (d:=0) (by rw [nt Xx];exact hx),LR Xx hx]
 rw [e]
theorem xP (hL:Form n L) {j:Nat} (hj:j < n+2):((aq n).map fun y=>(y8 n L).getD (y*(n+2)+j) 0)=(mid n L).map fun l=>val n (l.getD j 0):=by
 have hm:=nt hL.1
 have hlen:((mid n L).map fun l=>val n (l.getD j 0)).length=n:=by rw [ah,hm]
 rw [uo hlen]
 apply bT
 intro y hy
 rw [aT] at hy
 rw [E6 hL hy hj,getD_map (fun l=>val n (l.getD j 0)) (d:=[]) (by rw [hm];exact hy)]
noncomputable def wb (n:Nat) (L:List (List Nat)):Bool:=(mid n (L.getD 0 [])).all (DQ n)&&((mid n (L.getD (n+1) [])).all (DQ n)&&(mid n L).flatten.all (DQ n))
theorem uq (hL:Form n L):wb n L=true ↔ ((-1:Int) ∉ jx n L∧(-1:Int) ∉ (eQ n L).map (sgn n)):=by
 have ec:jx n L=((mid n L).flatMap (mid n)).map (sgn n):=by unfold jx;rw [qa]
 rw [ec,C2,C2,i8,i8]
 unfold wb eQ
 simp only [List.all_append,aj,aZ,bf,gX,PD]
 constructor
 ·rintro ⟨h1,h2,h3⟩
  refine ⟨?_,⟨⟨h1,?_⟩,h2⟩,?_⟩
  ·rintro b ⟨l,hl,hb⟩
   exact h3 b ⟨l,hl,jq hb⟩
  ·rintro b ⟨l,hl,rfl⟩
   refine h3 _ ⟨l,hl,?_⟩
   have:=hL.2 l (jq hl)
   rw [ak,au (by omega)]
   exact cS _
  ·rintro b ⟨l,hl,rfl⟩
   refine h3 _ ⟨l,hl,?_⟩
   have:=hL.2 l (jq hl)
   rw [ak,au (by omega)]
   exact cS _
 ·rintro ⟨h1,⟨⟨h2,h3⟩,h4⟩,h5⟩
  refine ⟨h2,h4,?_⟩
  rintro b ⟨l,hl,hb⟩
  rw [ends 0 (hL.2 l (jq hl))] at hb
  rcases aG.mp hb with rfl|hb
  ·exact h5 _ ⟨l,hl,rfl⟩
  ·rcases bG.mp hb with hb|hb
   ·exact h1 b ⟨l,hl,hb⟩
   ·rw [b3] at hb
    subst hb
    exact h3 _ ⟨l,hl,rfl⟩
theorem C3 {α:Type} (d:α) (l:List α):l.headD d=l.getD 0 d:=by cases l<;>rfl
theorem last_eq {α:Type} (d:α) {l:List α} {n:Nat} (h:l.length=n+2):l.getLastD d=l.getD (n+1) d:=by
 have e:l.getLast?=some (l.getD (n+1) d):=by
  rw [List.getLast?_eq_getElem?,h,ak,show n+2 - 1=n+1 by omega,au (by omega)];rfl
 rw [FQ,e];rfl
theorem xQ {l:List Nat} (h:l.length=n+2):kF n l=if l.getD 0 0=32∧l.getD (n+1) 0=32 then (if (mid n l).all (DQ n)=true then some ((mid n l).map (val n)) else none) else none:=by
 unfold kF
 rw [C3,last_eq 0 h]
 by_cases hc:l.getD 0 0=32∧l.getD (n+1) 0=32
 ·rw [if_pos ⟨h,hc.1,hc.2⟩,if_pos hc]
  exact xO n (mid n l)
 ·rw [if_neg (fun z=>hc z.2),if_neg hc]
theorem Iy {l:List Nat} (h:¬l.length=n+2):kF n l=none:=by
 unfold kF
 rw [if_neg (fun z=>h z.1)]
theorem B0 {b:List Nat} (hb:L=fP b) (hL:Form n L):fb n b=match kF n (L.getD 0 []),kF n (L.getD (n+1) []),(mid n L).flatten.mapM (gu n) with
  | some u,some d,some v=>some ((aq (n*n)).map fun p=>v.getD (p / n*(n+2)+1+p % n) 0,[u,(aq n).map fun y=>v.getD (y*(n+2)+n+1) 0,d,(aq n).map fun y=>v.getD (y*(n+2)) 0])
  | _,_,_=>none:=by
 unfold fb
 simp only []
 rw [←hb,if_neg (fun z=>z hL.1),if_neg,C3,last_eq [] hL.1]
 ·rfl
 ·rw [i8,aZ]
  intro l hl
  rw [beq_iff_eq]
  exact hL.2 l (jq hl)
theorem E7 {b:List Nat} (h1:1≤n) (h4:n≤4) (hb:L=fP b) (hf:qB n L=true) (hg:wb n L=true) :
  ∃x,fb n b=some x∧jx n L=x.1.map (fun a:Nat=>(a:Int))∧(eQ n L).map (sgn n)=x.2.flatten.map (fun a:Nat=>(a:Int))∧cP ⟨n,x.1,x.2⟩:=by
 unfold qB at hf
 rw [aj,decide_eq_true_eq,decide_eq_true_eq] at hf
 have hL:=(uk n L).mp hf.1
 have z0:(L.getD 0 []).length=n+2:=jX (by have:=hL.1;omega) hL.2
 have z1:(L.getD (n+1) []).length=n+2:=jX (by have:=hL.1;omega) hL.2
 have Og:=hf.2
 unfold CY at Og
 injection Og with c1 Og
 injection Og with c2 Og
 injection Og with c3 Og
 injection Og with c4 Og
 have Yy:=hg
 unfold wb at hg
 rw [aj,aj] at hg
 obtain ⟨g1,g2,g3⟩:=hg
 have hm:=nt hL.1
 rw [B0 hb hL,xQ z0,if_pos ⟨c1,c2⟩,if_pos g1,xQ z1,if_pos ⟨c3,c4⟩,if_pos g2,xO,if_pos g3]
 refine ⟨_,rfl,?_,?_,?_⟩
 ·show jx n L=((aq (n*n)).map fun p=>(y8 n L).getD (p / n*(n+2)+1+p % n) 0).map _
  rw [Iw h1 hL]
  have e1:jx n L=((mid n L).flatMap (mid n)).map (sgn n):=by unfold jx;rw [qa]
  have e2:((mid n L).flatMap fun l=>(mid n l).map (val n))=((mid n L).flatMap (mid n)).map (val n):=by rw [qa]
  rw [e1,e2]
  apply Iv
  have:=((uq hL).mp Yy).1
  rw [e1,C2,i8] at this
  exact this
 ·have hk:(eQ n L).all (DQ n)=true:=by
   have:=((uq hL).mp Yy).2
   rw [C2,i8] at this
   exact this
  rw [Iv hk]
  congr 1
  show (eQ n L).map (val n)=[(mid n (L.getD 0 [])).map (val n),(aq n).map fun y=>(y8 n L).getD (y*(n+2)+n+1) 0,(mid n (L.getD (n+1) [])).map (val n),(aq n).map fun y=>(y8 n L).getD (y*(n+2)) 0].flatten
  have s1:=xP hL (j:=n+1) (by omega)
  have s0:=xP hL (j:=0) (by omega)
  simp only [k0] at s0
  simp only [←wj] at s1
  rw [s1,s0]
  unfold eQ
  simp only [bq,ba,bB,PB,gn,de]
  rfl
 ·refine ⟨h1,h4,by rw [ah,aQ],?_,rfl,?_,?_⟩
  ·intro x hx
   show x≤n
   have hx:x∈(aq (n*n)).map fun p=>(y8 n L).getD (p / n*(n+2)+1+p % n) 0:=hx
   rw [Iw h1 hL,gX] at hx
   obtain ⟨l,_,hx⟩:=hx
   obtain ⟨c,_,rfl⟩:=bf.mp hx
   exact C1
  ·intro l hl
   show l.length=n
   simp only [aG,bV,or_false] at hl
   rcases hl with rfl|rfl|rfl|rfl
   ·rw [ah,nt z0]
   ·rw [ah,aQ]
   ·rw [ah,nt z1]
   ·rw [ah,aQ]
  ·intro l hl x hx
   show x≤n
   have s1:=xP hL (j:=n+1) (by omega)
   have s0:=xP hL (j:=0) (by omega)
   simp only [k0] at s0
   simp only [←wj] at s1
   have hv:∀l:List Nat,∀x∈l.map (val n),x≤n:=fun l x hx=>by
    obtain ⟨c,_,rfl⟩:=bf.mp hx
    exact C1
   simp only [aG,bV,or_false] at hl
   rcases hl with rfl|rfl|rfl|rfl
   ·exact hv _ x hx
   ·have hx:x∈(aq n).map fun y=>(y8 n L).getD (y*(n+2)+n+1) 0:=hx
    rw [s1] at hx
    obtain ⟨c,_,rfl⟩:=bf.mp hx
    exact C1
   ·exact hv _ x hx
   ·have hx:x∈(aq n).map fun y=>(y8 n L).getD (y*(n+2)) 0:=hx
    rw [s0] at hx
    obtain ⟨c,_,rfl⟩:=bf.mp hx
    exact C1
theorem LS {b:List Nat} (hb:L=fP b) (hL:¬Form n L):fb n b=none:=by
 unfold fb
 simp only []
 rw [←hb]
 by_cases h1:L.length=n+2
 ·rw [if_neg (fun z=>z h1)]
  by_cases h2:((L.drop 1).take n).all (fun x=>x.length == n+2)=false
  ·rw [if_pos h2]
  ·rw [if_neg h2,C3,last_eq [] h1]
   rw [i8,aZ] at h2
   by_cases h3:(L.getD 0 []).length=n+2
   ·by_cases h4:(L.getD (n+1) []).length=n+2
    ·refine absurd ⟨h1,fun l hl=>?_⟩ hL
     rw [ends [] h1] at hl
     rcases aG.mp hl with rfl|hl
     ·exact h3
     ·rcases bG.mp hl with hl|hl
      ·exact beq_iff_eq.mp (h2 l hl)
      ·rw [b3] at hl
       subst hl
       exact h4
    ·rw [Iy h4]
     cases kF n (L.getD 0 [])<;>rfl
   ·rw [Iy h3]
 ·rw [if_pos h1]
theorem C4 {b:List Nat} (hb:L=fP b) (h:¬(qB n L=true∧wb n L=true)):fb n b=none:=by
 by_cases hL:Form n L
 ·have z0:(L.getD 0 []).length=n+2:=jX (by have:=hL.1;omega) hL.2
  have z1:(L.getD (n+1) []).length=n+2:=jX (by have:=hL.1;omega) hL.2
  rw [B0 hb hL,xQ z0,xQ z1,xO]
  by_cases c1:(L.getD 0 []).getD 0 0=32∧(L.getD 0 []).getD (n+1) 0=32
  ·rw [if_pos c1]
   by_cases g1:(mid n (L.getD 0 [])).all (DQ n)=true
   ·rw [if_pos g1]
    by_cases c2:(L.getD (n+1) []).getD 0 0=32∧(L.getD (n+1) []).getD (n+1) 0=32
    ·rw [if_pos c2]
     by_cases g2:(mid n (L.getD (n+1) [])).all (DQ n)=true
     ·rw [if_pos g2]
      by_cases g3:(mid n L).flatten.all (DQ n)=true
      ·refine absurd ⟨?_,?_⟩ h
       ·unfold qB
        rw [aj,decide_eq_true_eq,decide_eq_true_eq]
        refine ⟨(uk n L).mpr hL,?_⟩
        unfold CY
        rw [c1.1,c1.2,c2.1,c2.2]
       ·unfold wb
        rw [g1,g2,g3];rfl
      ·rw [if_neg g3]
     ·rw [if_neg g2]
    ·rw [if_neg c2]
   ·rw [if_neg g1]
  ·rw [if_neg c1]
 ·exact LS hb hL
end
end Tn
namespace Xa
open Kh321 Tn
theorem y9:∀(l:List Nat) (s j:Nat),(l.foldl (fun s h=>if s.testBit (h - 1) then s else s+2 ^ (h - 1)) s).testBit j=true ↔ s.testBit j=true∨∃x∈l,x - 1=j
 | [],s,j=>by simp
 | x::l,s,j=>by
  rw [b9,y9 l,LB,uG,cY,gU,decide_eq_true_eq]
  constructor
  ·rintro ((h|h)|⟨y,h1,h2⟩)
   ·exact .inl h
   ·exact .inr ⟨x,by simp,h⟩
   ·exact .inr ⟨y,by simp [h1],h2⟩
  ·rintro (h|⟨y,h1,h2⟩)
   ·exact .inl (.inl h)
   ·rcases aG.mp h1 with rfl|h1
    ·exact .inl (.inr h2)
    ·exact .inr ⟨y,h1,h2⟩
theorem LU {l:List Nat} {x h:Nat} (hx:x∈l) (h1:∀y∈l,1≤y):bits l=2 ^ h ↔ h+1=x∧∀y∈l,y=x:=by
 constructor
 ·intro e
  have hb:∀y∈l,y=h+1:=fun y hy=>by
   have:(bits l).testBit (y - 1)=true:=by unfold bits;rw [y9];exact .inr ⟨y,hy,rfl⟩
   rw [e,gU,decide_eq_true_eq] at this
   have:=h1 y hy
   omega
  exact ⟨(hb x hx).symm,fun y hy=>by rw [hb y hy,hb x hx]⟩
 ·rintro ⟨rfl,ha⟩
  apply uH
  intro j
  rw [gU,eh]
  unfold bits
  rw [y9,decide_eq_true_eq]
  constructor
  ·rintro (h|⟨y,hy,rfl⟩)
   ·simp at h
   ·rw [ha y hy];rfl
  ·rintro rfl
   exact .inr ⟨h+1,hx,rfl⟩
theorem LV {α:Type} (f:Nat→Option α) {n k:Nat} (hk:k < n) (h:∀j,j≠k→f j=none):(aq n).findSome? f=f k:=by
 cases hf:f k with
 | none =>
  rw [DS]
  intro j _
  by_cases hj:j=k
  ·rw [hj];exact hf
  ·exact h j hj
 | some a =>
  have:∀l:List Nat,k∈l→l.findSome? f=some a:=fun l hl=>by
   induction l with
   | nil=>simp at hl
   | cons x l ih =>
    rw [c6]
    by_cases hx:x=k
    ·subst hx;rw [hf]
    ·rw [h x hx]
     exact ih (by rcases aG.mp hl with e|e;exact absurd e.symm hx;exact e)
  exact this _ (aT.mpr hk)
theorem GV {n c j:Nat} {q:List Nat} {l:List (List Nat)} (hr:∀w∈q::l,w.length=n∧∀x∈w,1≤x∧x≤n) (hj:j < n) :
  ((aq n).findSome? fun h=>if lineBits (q::l) j=2 ^ h then some (c,h+1) else none)=if iH q l j=true then some (c,tower q j) else none:=by
 have hm:∀w∈q::l,1≤tower w j∧tower w j≤n:=fun w hw=>by
  obtain ⟨e,h⟩:=hr w hw
  unfold tower
  rw [ak,au (by omega)]
  exact h _ (cS _)
 have hq:=hm q (by simp)
 have Rb:∀h,lineBits (q::l) j=2 ^ h ↔ h+1=tower q j∧∀y∈(q::l).map (fun l=>l.getD j 0),y=tower q j:=fun h =>
  LU (bf.mpr ⟨q,by simp,rfl⟩) fun y hy=>by
   obtain ⟨w,hw,rfl⟩:=bf.mp hy
   exact (hm w hw).1
 have hs:iH q l j=true ↔ ∀y∈(q::l).map (fun l=>l.getD j 0),y=tower q j:=by
  unfold iH
  rw [aZ]
  constructor
  ·intro h y hy
   obtain ⟨w,hw,rfl⟩:=bf.mp hy
   exact beq_iff_eq.mp (h w hw)
  ·intro h w hw
   exact beq_iff_eq.mpr (h _ (bf.mpr ⟨w,hw,rfl⟩))
 rw [LV (k:=tower q j - 1) _ (by omega)]
 ·by_cases h:iH q l j=true
  ·rw [if_pos h,if_pos ((Rb _).mpr ⟨by omega,hs.mp h⟩)]
   congr 2
   omega
  ·rw [if_neg h,if_neg fun e=>h (hs.mpr ((Rb _).mp e).2)]
 ·intro h hh
  rw [if_neg fun e=>hh (by have:=((Rb _).mp e).1;omega)]
noncomputable def tells (n:Nat) (t:Town) (c:Clues) (x:Nat×Nat):Option (Nat×Nat) :=
 (line n x.1 x.2).zipIdx.findSome? fun (z:Nat×Nat)=>if tower t z.1≠0 then none else (aq n).findSome? fun h=>if lineBits (lineWays n t c x.1 x.2) z.2=2 ^ h then some (z.1,h+1) else none
noncomputable def d9 (n:Nat):List (Nat×Nat):=(aq n).map (fun i=>(3,i))++(aq n).map fun i=>(0,i)
theorem Iz (n:Nat) (t:Town) (c:Clues):hint n t c=(d9 n).findSome? (tells n t c):=rfl
theorem LW (n:Nat) (t:Town) (c:Clues):stuck n t c=(d9 n).any fun x=>lineWays n t c x.1 x.2 == []:=by
 unfold stuck d9
 rw [List.any_append,IV,IV,eh,cY,lG,lG,lG]
 constructor
 ·rintro ⟨i,hi,h⟩
  rcases cY _ _▸h with h|h
  ·exact .inl ⟨i,hi,h⟩
  ·exact .inr ⟨i,hi,h⟩
 ·rintro (⟨i,hi,h⟩|⟨i,hi,h⟩)
  ·exact ⟨i,hi,by rw [show (lineWays n t c 3 i == [])=true from h];rfl⟩
  ·exact ⟨i,hi,by rw [show (lineWays n t c 0 i == [])=true from h,Bool.or_true]⟩
noncomputable def sg:Option (Nat×Nat)→List Nat
 | some x=>[x.1,x.2]
 | none=>[]
theorem sZ (f:Nat×Nat→Option (Nat×Nat)):∀(l:List (Nat×Nat)) (o:Option (Nat×Nat)),l.foldl (fun told x=>if told.length=0 then sg (f x) else told) (sg o)=sg (match o with|some x=>some x|none=>l.findSome? f)
 | [],none=>rfl
 | [],some _=>rfl
 | x::l,some y=>by
  rw [b9]
  exact sZ f l (some y)
 | x::l,none=>by
  rw [b9]
  show l.foldl _ (sg (f x))=_
  rw [sZ f l (f x),c6]
  cases f x<;>rfl
theorem GW {n:Nat} {t:Town} {c:Clues} {x:Nat×Nat} {y:Nat×Nat} (h:tells n t c x=some y):y.1∈line n x.1 x.2∧tower t y.1=0∧1≤y.2∧y.2≤n:=by
 unfold tells at h
 obtain ⟨z,hz,h⟩:=gz h
 by_cases h0:tower t z.1≠0
 ·rw [if_pos h0] at h;cases h
 ·rw [if_neg h0] at h
  obtain ⟨k,hk,h⟩:=gz h
  by_cases hb:lineBits (lineWays n t c x.1 x.2) z.2=2 ^ k
  ·rw [if_pos hb] at h
   cases h
   refine ⟨?_,by simpa using h0,by simp,by rw [aT] at hk;exact hk⟩
   have:=Ce hz
   have h3:=this.2.2
   simp only [cj,J3] at h3
   exact MO h3.symm
  ·rw [if_neg hb] at h;cases h
theorem B1 {n:Nat} {t:Town} {c:Clues} {y:Nat×Nat} (h:hint n t c=some y):(∃k i,i < n∧y.1∈line n k i)∧tower t y.1=0∧1≤y.2∧y.2≤n:=by
 rw [Iz] at h
 obtain ⟨x,hx,h⟩:=gz h
 obtain ⟨h1,h2⟩:=GW h
 refine ⟨⟨x.1,x.2,?_,h1⟩,h2⟩
 unfold d9 at hx
 rcases bG.mp hx with hx|hx
 ·obtain ⟨i,hi,rfl⟩:=bf.mp hx
  exact aT.mp hi
 ·obtain ⟨i,hi,rfl⟩:=bf.mp hx
  exact aT.mp hi
end Xa
namespace Xb
open Kh321
noncomputable def z4 (n:Nat):Clues:=aH 4 (aH n 0)
theorem xR (n k i:Nat):clue (z4 n) k i=0:=by
 have h:∀(m i:Nat),(aH m (0:Nat)).getD i 0=0:=fun m i=>by
  rw [ak,p_]
  split<;>rfl
 unfold clue z4
 rw [ak (l:=aH 4 _),p_]
 split
 ·exact h n i
 ·rfl
noncomputable def fit (n:Nat) (c:Clues) (w:Town) (k i:Nat):Bool:=clue c k i == 0||seenFrom n w k i == clue c k i
noncomputable def rf (c:Clues) (y:Nat) (r:List Nat):Bool:=Tn.v_ r (clue c 3 y) (clue c 1 y)
theorem Rc (n:Nat) (t:Town) (c:Clues) (y:Nat):lineWays n t c 3 y=(lineWays n t (z4 n) 3 y).filter (rf c y):=by
 unfold lineWays
 rw [f7]
 apply cU
 intro r _
 unfold goes
 rw [xR,xR]
 show (_&&rf c y r)=_
 cases rf c y r<;>simp
theorem qC {α β:Type} (p:α→Bool) (f:α→List β):∀l:List α,(l.filter p).flatMap f=l.flatMap fun a=>if p a=true then f a else []
 | []=>rfl
 | a::l=>by
  rw [c5,b_,←qC p f l]
  cases p a<;>simp
theorem y_ {n:Nat} {t:Town} {c:Clues}:∀(m y:Nat) (l L:List (List Nat)),L∈rows n t c m y l→∃s,L=l++s
 | 0,y,l,L,h=>by
  unfold rows at h
  rw [b3] at h
  exact ⟨[],by simp [h]⟩
 | m+1,y,l,L,h=>by
  unfold rows at h
  obtain ⟨r,_,h⟩:=gX.mp h
  obtain ⟨s,rfl⟩:=y_ m (y+1) (l++[r]) L h
  exact ⟨r::s,by simp⟩
noncomputable def pf (c:Clues) (y m:Nat) (L:List (List Nat)):Bool:=(aq m).all fun j=>rf c (y+j) (L.getD (y+j) [])
theorem Oh (c:Clues) (y m:Nat) (L:List (List Nat)):pf c y (m+1) L=(rf c y (L.getD y [])&&pf c (y+1) m L):=by
 unfold pf
 rw [iu,dk,x_]
 congr 1
 congr 1
 funext j
 show rf c (y+(j+1)) (L.getD (y+(j+1)) [])=rf c (y+1+j) (L.getD (y+1+j) [])
 rw [show y+(j+1)=y+1+j by omega]
theorem LX (n:Nat) (t:Town) (c:Clues):∀(m y:Nat) (l:List (List Nat)),l.length=y→rows n t c m y l=(rows n t (z4 n) m y l).filter (pf c y m)
 | 0,y,l,_=>by
  unfold rows
  rfl
 | m+1,y,l,hl=>by
  unfold rows
  rw [List.filter_flatMap,Rc,f7]
  have e:(fun a=>(l.all fun q=>(q.zip a).all fun x=>x.1 != x.2)&&rf c y a)=fun a=>rf c y a&&(l.all fun q=>(q.zip a).all fun x=>x.1 != x.2):=by
   funext a;rw [FW]
  rw [e,←f7,qC]
  apply Wy.kH
  intro r _
  have ih:=LX n t c m (y+1) (l++[r]) (by simp [hl])
  rw [ih]
  have:∀L∈rows n t (z4 n) m (y+1) (l++[r]),pf c y (m+1) L=(rf c y r&&pf c (y+1) m L):=fun L hL=>by
   obtain ⟨s,rfl⟩:=y_ m (y+1) (l++[r]) L hL
   rw [Oh]
   congr 2
   rw [de,ak,jf (by omega),hl,Nat.sub_self]
   rfl
  rw [cU this]
  cases rf c y r<;>simp
noncomputable def E8 (n:Nat) (c:Clues) (w:Town):Bool:=(aq n).all fun y=>fit n c w 3 y&&fit n c w 1 y
theorem LY {n y:Nat} {L:List (List Nat)} (hr:∀q∈L,q.length=n) (hy:y < L.length):seenFrom n L.flatten 3 y=seen 0 (L.getD y []):=by
 unfold seenFrom line
 rw [ba]
 have hq:(L.getD y []).length=n:=by
  rw [ak,au hy]
  exact hr _ (cS _)
 rw [Tn.uo hq]
 congr 1
 apply bT
 intro j hj
 rw [aT] at hj
 exact (Tn.jh hr hy hj).2
theorem JN {n y:Nat} {L:List (List Nat)} (h4:n≤4) (hr:∀q∈L,q.length=n) (hy:y < L.length):seenFrom n L.flatten 1 y=seen 0 (L.getD y []).reverse:=by
 unfold seenFrom line
 rw [ba]
 have hq:(L.getD y []).length=n:=by
  rw [ak,au hy]
  exact hr _ (cS _)
 rw [Tn.uo hq,←gW,Tn.oH h4,ba]
 congr 1
 apply bT
 intro j hj
 rw [aT] at hj
 exact (Tn.jh hr hy (by omega)).2
theorem Rf (n:Nat) (w:Town):columns n (z4 n) w=true:=by
 unfold columns
 rw [aZ]
 intro i _
 rw [xR,xR]
 rfl
noncomputable def fits (n:Nat) (c:Clues) (w:Town):Bool:=(aq 4).all fun k=>(aq n).all fun i=>fit n c w k i
theorem Oi (n:Nat) (c:Clues) (w:Town):fits n c w=(columns n c w&&E8 n c w):=by
 rw [eh,aj]
 unfold fits columns E8
 rw [aZ,aZ,aZ]
 constructor
 ·intro h
  have h:=fun k hk=>aZ.mp (h k hk)
  refine ⟨fun i hi=>?_,fun i hi=>?_⟩
  ·have h1:=h 0 (by decide) i hi
   have h2:=h 2 (by decide) i hi
   unfold fit at h1 h2
   rw [h1,h2];rfl
  ·rw [h 3 (by decide) i hi,h 1 (by decide) i hi];rfl
 ·rintro ⟨h1,h2⟩ k hk
  rw [aZ]
  intro i hi
  have h1:=(aj _ _).mp (h1 i hi)
  have h2:=(aj _ _).mp (h2 i hi)
  rw [aT] at hk
  match k,hk with
  | 0,_=>exact h1.1
  | 1,_=>exact h2.2
  | 2,_=>exact h1.2
  | 3,_=>exact h2.1
theorem C5 {n:Nat} {t:Town} (c:Clues) (h4:n≤4) (hr:∀L∈rows n t (z4 n) n 0 [],(∀q∈L,q.length=n)∧L.length=n):ways n t c=(ways n t (z4 n)).filter (fits n c):=by
 unfold ways
 rw [LX n t c n 0 [] rfl]
 rw [MM.mpr fun w _=>Rf n w]
 have e:(rows n t (z4 n) n 0 []).filter (pf c 0 n)=(rows n t (z4 n) n 0 []).filter (E8 n c∘List.flatten):=by
  apply cU
  intro L hL
  obtain ⟨h1,h2⟩:=hr L hL
  unfold pf
  show _=E8 n c L.flatten
  unfold E8
  rw [eh,aZ,aZ]
  have key:∀y∈aq n,rf c (0+y) (L.getD (0+y) [])=(fit n c L.flatten 3 y&&fit n c L.flatten 1 y):=fun y hy=>by
   rw [aT] at hy
   unfold fit
   rw [cj,LY h1 (by omega),JN h4 h1 (by omega)]
   rfl
  exact ⟨fun h y hy=>by rw [←key y hy];exact h y hy,fun h y hy=>by rw [key y hy];exact h y hy⟩
 rw [e,←j9,f7]
 apply cU
 intro w _
 rw [Oi]
theorem LZ {c:Clues} {k i v a b:Nat} (hk:k < c.length) (hi:i < (c.getD k []).length):clue (setClue c k i v) a b=if a=k∧b=i then v else clue c a b:=by
 unfold clue setClue
 by_cases ha:a=k
 ·subst ha
  have e1:(c.set a ((c.getD a []).set i v)).getD a []=(c.getD a []).set i v:=by
   rw [ak,b6 hk];rfl
  rw [e1]
  by_cases hb:b=i
  ·subst hb
   rw [if_pos ⟨rfl,rfl⟩,ak,b6 hi];rfl
  ·rw [if_neg fun h=>hb h.2,ak,bo (Ne.symm hb),←ak]
 ·rw [if_neg fun h=>ha h.1]
  congr 1
  rw [ak,bo (Ne.symm ha),←ak]
theorem za {n:Nat} {c:Clues} {w:Town}:fits n c w=true ↔ ∀k i,k < 4→i < n→fit n c w k i=true:=by
 unfold fits
 rw [aZ]
 constructor
 ·intro h k i hk hi
  exact aZ.mp (h k (aT.mpr hk)) i (aT.mpr hi)
 ·intro h k hk
  rw [aZ]
  intro i hi
  exact h k i (aT.mp hk) (aT.mp hi)
theorem GX {α:Type} (p:α→Bool):∀l:List α,(l.filter p).length=l.length ↔ ∀a∈l,p a=true
 | l=>by rw [List.length_filter_eq_length_iff]
noncomputable def iI (n:Nat) (c:Clues) (w:Town):List Nat:=(aq (4*n)).filter fun z=>clue c (z / n) (z % n) != 0&&seenFrom n w (z / n) (z % n) != clue c (z / n) (z % n)
noncomputable def lD (l:List Nat):List Nat:=if l.length=1 then l else []
theorem place {n k i:Nat} (hk:k < 4) (hi:i < n):k*n+i < 4*n∧(k*n+i) / n=k∧(k*n+i) % n=i:=by
 refine ⟨?_,?_,?_⟩
 ·have:(k+1)*n≤4*n:=mV n hk
  rw [gE,iw] at this
  omega
 ·rw [e8,DL (by omega),ml hi,k0]
 ·rw [e8,DM,Br hi]
theorem s_ {n z:Nat} (hn:1≤n) (hz:z < 4*n):z / n < 4∧z % n < n∧z / n*n+z % n=z :=
 ⟨by rw [Nat.div_lt_iff_lt_mul (by omega)];exact hz,xu _ (by omega),by rw [e8];exact Nat.div_add_mod z n⟩
theorem JO {n:Nat} {t:Town} {c:Clues} (hn:1≤n) (h4:n≤4) (hr:∀L∈rows n t (z4 n) n 0 [],(∀q∈L,q.length=n)∧L.length=n) (hc:c.length=4) (hl:∀l∈c,l.length=n) {z:Nat} (hz:z < 4*n) (h0:clue c (z / n) (z % n)≠0) :
  (ways n t (setClue c (z / n) (z % n) 0)).length=(ways n t c).length ↔ ¬∃w∈ways n t (z4 n),lD (iI n c w)=[z]:=by
 obtain ⟨p1,p2,p3⟩:=s_ hn hz
 have hk:z / n < c.length:=by omega
 have hi:z % n < (c.getD (z / n) []).length:=by
  rw [ak,au hk]
  rw [show (some c[z / n]).getD []=c[z / n] from rfl,hl _ (cS _)]
  exact p2
 have fs:∀w a b,fit n (setClue c (z / n) (z % n) 0) w a b=if a=z / n∧b=z % n then true else fit n c w a b:=fun w a b=>by
  unfold fit
  rw [LZ hk hi]
  by_cases h:a=z / n∧b=z % n
  ·rw [if_pos h,if_pos h];rfl
  ·rw [if_neg h,if_neg h]
 have e:ways n t c=(ways n t (setClue c (z / n) (z % n) 0)).filter fun w=>fit n c w (z / n) (z % n):=by
  rw [C5 c h4 hr,C5 (setClue c (z / n) (z % n) 0) h4 hr,f7]
  apply cU
  intro w _
  rw [eh,aj,za,za]
  constructor
  ·intro h
   exact ⟨h _ _ p1 p2,fun a b ha hb=>by rw [fs];split;rfl;exact h a b ha hb⟩
  ·rintro ⟨h1,h2⟩ a b ha hb
   by_cases h:a=z / n∧b=z % n
   ·rw [h.1,h.2];exact h1
   ·have:=h2 a b ha hb
    rw [fs,if_neg h] at this
    exact this
 rw [eq_comm,e,GX]
 have mem:∀w x,x∈iI n c w ↔ x < 4*n∧fit n c w (x / n) (x % n)=false:=fun w x=>by
  unfold iI fit
  rw [cN,aT]
  constructor
  ·rintro ⟨h1,h2⟩
   refine ⟨h1,?_⟩
   rw [aj,bne_iff_ne,bne_iff_ne] at h2
   rw [Kc,beq_eq_false_iff_ne,beq_eq_false_iff_ne]
   exact h2
  ·rintro ⟨h1,h2⟩
   refine ⟨h1,?_⟩
   rw [Kc,beq_eq_false_iff_ne,beq_eq_false_iff_ne] at h2
   rw [aj,bne_iff_ne,bne_iff_ne]
   exact h2
 have only:∀w,lD (iI n c w)=[z] ↔ (fits n (setClue c (z / n) (z % n) 0) w=true∧fit n c w (z / n) (z % n)=false):=fun w=>by
  rw [za]
  have nd:(iI n c w).Nodup:=by unfold iI;exact List.Pairwise.filter _ List.nodup_range
  constructor
  ·intro h
   have hw:iI n c w=[z]:=by
    unfold lD at h
    by_cases hl:(iI n c w).length=1
    ·rw [if_pos hl] at h;exact h
    ·rw [if_neg hl] at h;cases h
   refine ⟨fun a b ha hb=>?_,((mem w z).mp (by rw [hw];simp)).2⟩
   rw [fs]
   by_cases EA:a=z / n∧b=z % n
   ·rw [if_pos EA]
   ·rw [if_neg EA]
    obtain ⟨q1,q2,q3⟩:=place ha hb
    cases hf:fit n c w a b with
    | true=>rfl
    | false =>
     have:a*n+b∈iI n c w:=(mem w _).mpr ⟨q1,by rw [q2,q3];exact hf⟩
     rw [hw,b3] at this
     exact absurd ⟨by rw [←this,q2],by rw [←this,q3]⟩ EA
  ·rintro ⟨h1,h2⟩
   have WD:z∈iI n c w:=(mem w z).mpr ⟨hz,h2⟩
   have rN:∀x∈iI n c w,x=z:=fun x hx=>by
    obtain ⟨hx1,Xy⟩:=(mem w x).mp hx
    obtain ⟨r1,r2,r3⟩:=s_ hn hx1
    have:=h1 _ _ r1 r2
    rw [fs] at this
    by_cases EA:x / n=z / n∧x % n=z % n
    ·rw [←r3,EA.1,EA.2,p3]
    ·rw [if_neg EA,Xy] at this;cases this
   have hw:iI n c w=[z]:=by
    generalize iI n c w=q at WD rN nd
    match q,WD,rN,nd with
    | [],h,_,_=>simp at h
    | [x],_,h,_=>rw [h x (by simp)]
    | x::y::r,_,h,nd =>
     have e1:=h x (by simp)
     have e2:=h y (by simp)
     subst e1
     subst e2
     simp at nd
   rw [hw];rfl
 constructor
 ·rintro h ⟨w,hw,ho⟩
  obtain ⟨h1,h2⟩:=(only w).mp ho
  have:=h w (by rw [C5 _ h4 hr];exact cN.mpr ⟨hw,h1⟩)
  rw [h2] at this;cases this
 ·intro h w hw
  rw [C5 _ h4 hr] at hw
  obtain ⟨h1,h2⟩:=cN.mp hw
  cases hf:fit n c w (z / n) (z % n) with
  | true=>rfl
  | false=>exact absurd ⟨w,h1,(only w).mpr ⟨h2,hf⟩⟩ h
end Xb
namespace Xc
open Kh321
theorem GY {n:Nat} {c:Clues} {t:Town} (h:stuck n t c=true∨hint n t c=none):∀f,follow n c f t=t
 | 0=>rfl
 | f+1=>by
  unfold follow
  by_cases hs:stuck n t c=true
  ·rw [if_pos hs]
  ·rw [if_neg hs,h.resolve_left hs]
theorem JP {n f:Nat} {c:Clues} {t:Town} {x:Nat×Nat} (hs:stuck n t c=false) (h:hint n t c=some x):follow n c (f+1) t=follow n c f (t.set x.1 x.2):=by
 rw [follow,if_neg (by rw [hs];decide),h]
theorem zb (l:List Nat):standing l≤l.length:=gc _ _
theorem E9:∀(l:List Nat) (m:Nat),(∀x∈l,x≤m)→seen m l=0
 | [],_,_=>rfl
 | x::l,m,h=>by
  rw [seen,if_neg (by have:=h x (by simp);omega)]
  exact E9 l m fun y hy=>h y (by simp [hy])
end Xc
namespace Tn
open PySem Mi Xa
theorem Us {a b:List D} (h:a.length+b.length≤1000):i9 .add (.lst a) (.lst b)=some (.lst (a++b)):=by
 have hz:(1000:Nat)≤sizeLine:=by decide
 simp only [i9]
 rw [if_pos (by omega)]
noncomputable def n8:Ss:=(.cons (.jL (.not (.call "is_line" iU (.cons (.var 0) (.cons (.var 1) (.cons (.var 2) .nil))))) (.cons (.ret (.lst (.cons (.gl "NO_SUCH" (.int (-22))) .nil)) []) .nil) .nil) (.cons (.asg 3 (.call "line_ways" iF (.cons (.var 0) (.cons (.var 1) (.cons (.var 2) .nil)))) []) (.cons (.jL (.op .eq (.un .len (.var 3)) (.int 0)) (.cons (.ret (.lst (.cons (.gl "NO_WAY" (.int (-33))) .nil)) []) .nil) .nil) (.cons (.ret (.op .add (.lst (.cons (.un .len (.var 3)) .nil)) (.comp (.nm 4) (.pW (.fld (.var 0) "n")) .no (.call "bits_at" oM (.cons (.var 3) (.cons (.var 4) .nil))))) []) .nil))))
theorem Rg {g:ag} (ok:cP g) {k i j:Nat} (hj:j < g.n):∀w∈jH g k i,j < w.length∧∀x∈w,1≤x∧x≤1000:=fun w hw=>by
 obtain ⟨h1,h2⟩:=uh ok (k:=k) (i:=i)
 obtain ⟨h3,h4⟩:=h1 w hw
 refine ⟨by omega,fun x hx=>?_⟩
 have:=h4 x hx
 have:=ok.hi
 omega
theorem wJ {g:ag} {k i:Nat} (ok:cP g):bQ 5 n8 [tD g,iN k,iN i]=some (dq (told g (.line k i))):=by
 have hn:=ok.hi
 by_cases h:k < 4∧i < g.n
 ·refine bg ((aI ((oK ok rfl rfl rfl).trans (by rw [yN h]))).trans ((cH (aM (ai (af rfl) (ai (af rfl) (ai (af rfl) ay))) (o9 ok h.1 h.2))).trans ?_))
  have et:told g (.line k i)=match jH g k i with|[]=>aw (-33)|w=>⟨w.length,(aq g.n).map (DN w)⟩:=by
   show (if 3 < k∨g.n≤i then _ else (match jH g k i with|[]=>_|w=>_):Option aE×aW).2=_
   rw [if_neg (by omega)]
   cases jH g k i<;>rfl
  rw [et]
  have hw:∀j,j < g.n→∀w∈jH g k i,j < w.length∧∀x∈w,1≤x∧x≤1000:=fun j hj=>Rg ok hj
  generalize jH g k i=A at hw ⊢
  cases A with
  | nil=>exact (bJ (bx (fV (af rfl) jo) a_ (fT (b:=0))) (aX (cE (ai bZ ay)))).trans rfl
  | cons q l =>
   refine (aI (bx (fV (af rfl) jo) a_ (fT (b:=0)))).trans ((aX (bx (cE (ai (fV (af rfl) jo) ay)) ((eG (jc (cq (af rfl) (gL g)) (rP (by omega))) (dD iN (fun j=>iN (DN (q::l) j)) (aq g.n) fun j hj=>⟨_,rfl,kW,aM (ai (af rfl) (ai (af rfl) ay)) (yV (hw j (aT.mp hj)))⟩)).trans (by rw [jR])) (ni (by rw [ah,aQ];omega)))).trans rfl)
 ·refine bg ((bJ ((oK ok rfl rfl rfl).trans (by rw [CP h])) (aX (cE (ai bZ ay)))).trans ?_)
  have e:told g (.line k i)=aw (-22):=by
   show (if 3 < k∨g.n≤i then _ else _:Option aE×aW).2=_
   rw [if_pos (by omega)]
  rw [e];rfl
noncomputable def oq (x:Nat×Nat):D:=.tup [iN x.1,iN x.2]
noncomputable def gw:Ss:=(.cons (.ret (.op .add (.comp (.nm 1) (.pW (.var 0)) .no (.tup (.cons (.gl "LEFT" (.int 3)) (.cons (.var 1) .nil)))) (.comp (.nm 1) (.pW (.var 0)) .no (.tup (.cons (.gl "ABOVE" (.int 0)) (.cons (.var 1) .nil))))) []) .nil)
theorem pZ {n:Nat} (hn:n≤4):bQ 2 gw [iN n]=some (.lst ((d9 n).map oq)):=by
 refine bg (aX ((bx (eG (jc (af rfl) (rP (by omega))) (dD iN (fun i=>oq (3,i)) (aq n) fun i hi=>⟨_,rfl,kW,ud (ai bZ (ai (af rfl) ay))⟩)) (eG (jc (af rfl) (rP (by omega))) (dD iN (fun i=>oq (0,i)) (aq n) fun i hi=>⟨_,rfl,kW,ud (ai bZ (ai (af rfl) ay))⟩)) (Us (by rw [ah,ah,aQ];omega))).trans ?_))
 unfold d9
 rw [bq,ba,ba]
 rfl
noncomputable def fi:List D→Option D:=kI (fun x:Nat=>[iN x]) (fun x=>x≤4) (fun x=>.lst ((d9 x).map oq))
theorem qD {n:Nat} (h:n≤4):fi [iN n]=some (.lst ((d9 n).map oq)) :=
 b4 (x:=n) h fun y h hy=>by
  injection h with h1 h
  rw [cx h1]
theorem qE:∀ds d,fi ds=some d→bQ 2 gw ds=some d:=fun ds d h=>by
 obtain ⟨x,rfl,hp,rfl⟩:=bj h
 exact pZ hp
noncomputable def ll:Ss:=(.cons (.jL (.and (.cons (.op .eq (.ix (.fld (.var 0) "cells") (.var 4)) (.int 0)) (.cons (.call "is_same" iX (.cons (.var 2) (.cons (.var 3) .nil))) .nil))) (.cons (.ret (.lst (.cons (.var 4) (.cons (.ix (.ix (.var 2) (.int 0)) (.var 3)) .nil))) []) .nil) .nil) .nil)
noncomputable def lP:Ss:=(.cons (.jM (.tp [3,4]) (.enum (.var 1)) [] ll) (.cons (.ret (.lst .nil) []) .nil))
noncomputable def qF (t cs q:List Nat) (l:List (List Nat)):Option (Nat×Nat):=cs.zipIdx.findSome? fun z=>if aA t z.1=0∧iH q l z.2=true then some (z.1,aA q z.2) else none
theorem zc {g:ag} {cs q:List Nat} {l:List (List Nat)} (hc:∀p∈cs,p < g.town.length) (hl:∀w∈q::l,w.length=cs.length):bQ 5 lP [tD g,iL cs,iE (q::l)]=some (iL (sg (qF g.town cs q l))):=by
 have key:=rj (t:=.tp [3,4]) (body:=cf ll) (fun z:Nat×Nat=>.tup [iN z.2,iN z.1]) (fun s=>∃x y,s=[.fz (tD g),.fz (iL cs),.fz (iE (q::l)),x,y])
  (fun z=>if aA g.town z.1=0∧iH q l z.2=true then some (iL [z.1,aA q z.2]) else none) cs.zipIdx
  (fun s ⟨x,y,hs⟩ z hz=>by
   subst hs
   obtain ⟨_,h2,h3⟩:=Ce hz
   simp only [cj,J3] at h2 h3
   have Vq:z.1∈cs:=MO h3.symm
   have hw:∀w∈q::l,z.2 < w.length:=fun w hw=>by rw [hl w hw];exact h2
   refine ⟨_,rfl,?_⟩
   have ec:bH (.and (.cons (.op .eq (.ix (.fld (.var 0) "cells") (.var 4)) (.int 0)) (.cons (.call "is_same" iX (.cons (.var 2) (.cons (.var 3) .nil))) .nil))) (bA [.fz (tD g),.fz (iL cs),.fz (iE (q::l)),.fz (iN z.2),.fz (iN z.1)])=some (.bl (decide (aA g.town z.1=0)&&iH q l z.2)) :=
    vc (bx (eA (cq (af rfl) (eP g)) (af rfl) (jQ (hc _ Vq))) a_ (fT (b:=0))) fun _=>aM (ai (af rfl) (ai (af rfl) ay)) (sY hw)
   by_cases h:aA g.town z.1=0∧iH q l z.2=true
   ·rw [if_pos h]
    exact bJ (ec.trans (by rw [decide_eq_true h.1,h.2];rfl)) (aX (cE (ai (af rfl) (ai (eA (eA (af rfl) a_ CS) (af rfl) (jQ (hw q (by simp)))) ay))))
   ·rw [if_neg h]
    refine ⟨_,(aI (ec.trans ?_)).trans rfl,_,_,rfl⟩
    by_cases h0:aA g.town z.1=0
    ·rw [decide_eq_true h0,pL.mpr fun e=>h ⟨h0,e⟩];rfl
    ·rw [decide_eq_false h0];rfl) _ ⟨.no,.no,rfl⟩
 have ef:cs.zipIdx.findSome? (fun z=>if aA g.town z.1=0∧iH q l z.2=true then some (iL [z.1,aA q z.2]) else none)=(qF g.town cs q l).map fun x=>iL [x.1,x.2]:=by
  unfold qF
  generalize cs.zipIdx=L
  induction L with
  | nil=>rfl
  | cons z L ih =>
   rw [c6,c6,ih]
   by_cases h:aA g.town z.1=0∧iH q l z.2=true
   ·rw [if_pos h,if_pos h];rfl
   ·rw [if_neg h,if_neg h]
 have ei:pX (.enum (.var 1)) (view (freeze [] [.fz (tD g),.fz (iL cs),.fz (iE (q::l)),.no,.no]))=some (cs.zipIdx.map fun p=>.tup [iN p.2,iN p.1]):=(xJ (af rfl)).trans (by rw [ui])
 rw [ef] at key
 cases hf:qF g.town cs q l with
 | some x =>
  rw [hf] at key
  exact bg (ue ei key)
 | none =>
  rw [hf] at key
  obtain ⟨s',h,x,y,rfl⟩:=key
  exact bg ((fv ei h).trans (aX (cE ay)))
noncomputable def lQ:List D→Option D:=kI (fun x:ag×List Nat×List Nat×List (List Nat)=>[tD x.1,iL x.2.1,iE (x.2.2.1::x.2.2.2)]) (fun x=>cP x.1∧(∀p∈x.2.1,p < x.1.town.length)∧∀w∈x.2.2.1::x.2.2.2,w.length=x.2.1.length) (fun x=>iL (sg (qF x.1.town x.2.1 x.2.2.1 x.2.2.2)))
theorem AG {g:ag} {cs q:List Nat} {l:List (List Nat)} (ok:cP g) (hc:∀p∈cs,p < g.town.length) (hl:∀w∈q::l,w.length=cs.length):lQ [tD g,iL cs,iE (q::l)]=some (iL (sg (qF g.town cs q l))) :=
 b4 (x:=(g,cs,q,l)) ⟨ok,hc,hl⟩ fun y h hy=>by
  obtain ⟨a,b,c,d⟩:=y
  injection h with h1 h;injection h with h2 h;injection h with h3 h
  have e:=rk h3
  injection e with e1 e2
  have e1:c=q:=e1
  have e2:d=l:=e2
  rw [dQ hy.1 ok h1,gg h2,e1,e2]
theorem AH:∀ds d,lQ ds=some d→bQ 5 lP ds=some d:=fun ds d h=>by
 obtain ⟨x,rfl,hp,rfl⟩:=bj h
 exact zc hp.2.1 hp.2.2
noncomputable def fE:Ss:=(.cons (.asg 4 (.call "line_ways" iF (.cons (.var 0) (.cons (.var 2) (.cons (.var 3) .nil)))) []) (.cons (.jL (.op .eq (.un .len (.var 4)) (.int 0)) (.cons (.ret (.lst (.cons (.gl "NO_WAY" (.int (-33))) .nil)) []) .nil) .nil) (.cons (.jL (.op .eq (.un .len (.var 1)) (.int 0)) (.cons (.asg 1 (.call "first_told" lQ (.cons (.var 0) (.cons (.call "line_cells" fw (.cons (.fld (.var 0) "n") (.cons (.var 2) (.cons (.var 3) .nil)))) (.cons (.var 4) .nil)))) []) .nil) .nil) .nil)))
noncomputable def n9:Ss:=(.cons (.asg 1 (.lst .nil) []) (.cons (.jM (.tp [2,3]) (.lst (.call "rows_then_columns" fi (.cons (.fld (.var 0) "n") .nil))) [] fE) (.cons (.jL (.op .eq (.un .len (.var 1)) (.int 0)) (.cons (.ret (.lst (.cons (.gl "UNSURE" (.int (-6))) .nil)) []) .nil) .nil) (.cons (.ret (.var 1) []) .nil))))
theorem E_ {g:ag} (ok:cP g) {x:Nat×Nat} {q:List Nat} {l:List (List Nat)} (hw:jH g x.1 x.2=q::l):qF g.town (a7 g.n x.1 x.2) q l=tells g.n g.town g.clues x:=by
 have hr:=(uh ok (k:=x.1) (i:=x.2)).1
 rw [hw] at hr
 have Vm:(a7 g.n x.1 x.2).length=g.n:=by unfold a7;rw [ah,aQ]
 unfold qF tells
 have hw':gT g.n g.town g.clues x.1 x.2=q::l:=hw
 rw [hw']
 have:∀(L:List (Nat×Nat)),(∀z∈L,z.2 < g.n)→(L.findSome? fun z=>if aA g.town z.1=0∧iH q l z.2=true then some (z.1,aA q z.2) else none)=L.findSome? fun z=>if aA g.town z.1≠0 then none else (aq g.n).findSome? fun h=>if DN (q::l) z.2=2 ^ h then some (z.1,h+1) else none:=fun L=>by
  induction L with
  | nil=>intro _;rfl
  | cons z L ih =>
   intro hL
   rw [c6,c6,ih fun y hy=>hL y (by simp [hy]),GV hr (hL z (by simp))]
   by_cases h0:aA g.town z.1=0
   ·rw [if_neg (show ¬aA g.town z.1≠0 by simp [h0])]
    by_cases hs:iH q l z.2=true
    ·rw [if_pos ⟨h0,hs⟩,if_pos hs]
    ·rw [if_neg fun h=>hs h.2,if_neg hs]
   ·rw [if_neg fun h=>h0 h.1,if_pos h0]
 refine this _ fun z hz=>?_
 obtain ⟨_,h2,_⟩:=Ce hz
 omega
theorem L0 {n:Nat} {x:Nat×Nat} (h:x∈d9 n):x.1 < 4∧x.2 < n:=by
 unfold d9 at h
 rcases bG.mp h with h|h
 ·obtain ⟨i,hi,rfl⟩:=bf.mp h
  exact ⟨show (3:Nat) < 4 by decide,aT.mp hi⟩
 ·obtain ⟨i,hi,rfl⟩:=bf.mp h
  exact ⟨show (0:Nat) < 4 by decide,aT.mp hi⟩
theorem rA {g:ag}:told g .hint=if fg g.n g.town g.clues=true then aw (-33) else match fW g.n g.town g.clues with|some x=>⟨x.1,[x.2]⟩|none=>aw (-6):=by
 show (if fg g.n g.town g.clues=true then _ else (match fW g.n g.town g.clues with|some x=>_|none=>_):Option aE×aW).2=_
 split
 ·rfl
 ·cases fW g.n g.town g.clues<;>rfl
theorem wK {g:ag} (ok:cP g):bQ 5 n9 [tD g]=some (dq (told g .hint)):=by
 have hn:=ok.hi
 rw [rA,LW]
 have ei:pX (.lst (.call "rows_then_columns" fi (.cons (.fld (.var 0) "n") .nil))) (view (freeze [] [.fz (tD g),.fz (.lst []),.no,.no,.no]))=some ((d9 g.n).map oq):=eT (aM (ai (cq (af rfl) (gL g)) ay) (qD hn))
 have body:∀(x:Nat×Nat) (T:List Nat) (u v w:Sl),x.1 < 4∧x.2 < g.n→∃s1,Gq (.tp [2,3]) (oq x) [.fz (tD g),.fz (iL T),u,v,w]=some s1 ∧
   (if jH g x.1 x.2=[] then cf fE s1=some (.rt (dq (aw (-33)))) else ∃u v w,cf fE s1=some (.nx [.fz (tD g),.fz (iL (if T.length=0 then sg (tells g.n g.town g.clues x) else T)),u,v,w])):=fun x T u v w hx=>by
  refine ⟨_,rfl,?_⟩
  have e1:=o9 ok hx.1 hx.2
  have e0:∀{A:List (List Nat)} {s:List Sl},fR (bA s) 4=some (iE A)→bH (.op .eq (.un .len (.var 4)) (.int 0)) (bA s)=some (.bl (decide (A.length=0))):=fun h=>bx (fV (af h) jo) a_ (fT (b:=0))
  have er:∀{s:List Sl},fR (bA s) 1=some (iL T)→bH (.op .eq (.un .len (.var 1)) (.int 0)) (bA s)=some (.bl (decide (T.length=0))):=fun h=>bx (fV (af h) ig) a_ (fT (b:=0))
  by_cases hw:jH g x.1 x.2=[]
  ·rw [if_pos hw]
   rw [hw] at e1
   exact (cH (aM (ai (af rfl) (ai (af rfl) (ai (af rfl) ay))) e1)).trans (bJ ((e0 (A:=[]) rfl).trans rfl) (aX (cE (ai bZ ay))))
  ·rw [if_neg hw]
   obtain ⟨q,l,hq⟩:∃q l,jH g x.1 x.2=q::l:=by
    cases h:jH g x.1 x.2 with
    | nil=>exact absurd h hw
    | cons q l=>exact ⟨q,l,rfl⟩
   have hr:=(uh ok (k:=x.1) (i:=x.2)).1
   rw [hq] at e1 hr
   have Vm:(a7 g.n x.1 x.2).length=g.n:=by unfold a7;rw [ah,aQ]
   have e2:=AG (cs:=a7 g.n x.1 x.2) (q:=q) (l:=l) ok (fun p hp=>by rw [ok.town];exact oZ hx.2 hp) (fun w hw=>by rw [Vm];exact (hr w hw).1)
   rw [E_ ok hq] at e2
   refine ⟨.fz (iN x.1),.fz (iN x.2),.fz (iE (q::l)),(cH (aM (ai (af rfl) (ai (af rfl) (ai (af rfl) ay))) e1)).trans ((aI ((e0 (A:=q::l) rfl).trans (by rw [decide_eq_false (by simp)]))).trans ?_)⟩
   by_cases hT:T.length=0
   ·rw [if_pos hT]
    exact (jP ((er rfl).trans (by rw [decide_eq_true hT])) ((cH (aM (ai (af rfl) (ai (aM (ai (cq (af rfl) (gL g)) (ai (af rfl) (ai (af rfl) ay))) (jg hn (by omega))) (ai (af rfl) ay))) e2)).trans rfl)).trans rfl
   ·rw [if_neg hT]
    exact (aI ((er rfl).trans (by rw [decide_eq_false hT]))).trans rfl
 by_cases hs:((d9 g.n).any fun x=>gT g.n g.town g.clues x.1 x.2 == [])=true
 ·rw [if_pos hs]
  have key:=rj (t:=.tp [2,3]) (body:=cf fE) oq (fun s=>∃T u v w,s=[.fz (tD g),.fz (iL T),u,v,w])
   (fun x=>if jH g x.1 x.2=[] then some (dq (aw (-33))) else none) (d9 g.n)
   (fun s ⟨T,u,v,w,hs⟩ x hx=>by
    subst hs
    obtain ⟨s1,h1,h2⟩:=body x T u v w (L0 hx)
    refine ⟨s1,h1,?_⟩
    by_cases hw:jH g x.1 x.2=[]
    ·rw [if_pos hw] at h2 ⊢;exact h2
    ·rw [if_neg hw] at h2 ⊢
     obtain ⟨u,v,w,h2⟩:=h2
     exact ⟨_,h2,_,u,v,w,rfl⟩) _ ⟨[],.no,.no,.no,rfl⟩
  obtain ⟨x,hx,Xy⟩:=lG.mp hs
  have ef:(d9 g.n).findSome? (fun x=>if jH g x.1 x.2=[] then some (dq (aw (-33))) else none)=some (dq (aw (-33))):=by
   cases hf:(d9 g.n).findSome? (fun x=>if jH g x.1 x.2=[] then some (dq (aw (-33))) else none) with
   | none =>
    rw [DS] at hf
    have:=hf x hx
    rw [if_pos (show jH g x.1 x.2=[] from beq_iff_eq.mp Xy)] at this
    cases this
   | some d =>
    obtain ⟨y,_,hy⟩:=gz hf
    split at hy
    ·exact hy.symm
    ·cases hy
  rw [ef] at key
  exact bg ((cH (cE ay)).trans (ue ei key))
 ·rw [if_neg hs]
  have hno:∀x∈d9 g.n,jH g x.1 x.2≠[]:=fun x hx h=>hs (lG.mpr ⟨x,hx,beq_iff_eq.mpr h⟩)
  obtain ⟨s',h,_,u,v,w,rfl⟩:=dE (t:=.tp [2,3]) (body:=cf fE) oq (fun (T:List Nat) x=>if T.length=0 then sg (tells g.n g.town g.clues x) else T)
   (fun T r s=>(∀x∈r,x∈d9 g.n)∧∃u v w,s=[.fz (tD g),.fz (iL T),u,v,w])
   (fun T x r s ⟨hr,u,v,w,hs⟩=>by
    subst hs
    have hx:=hr x (by simp)
    obtain ⟨s1,h1,h2⟩:=body x T u v w (L0 hx)
    rw [if_neg (hno x hx)] at h2
    obtain ⟨u,v,w,h2⟩:=h2
    exact ⟨s1,_,h1,h2,fun y hy=>hr y (by simp [hy]),u,v,w,rfl⟩) (d9 g.n) (sg none) [.fz (tD g),.fz (iL []),.no,.no,.no] ⟨fun _ h=>h,.no,.no,.no,rfl⟩
  rw [sZ,←Iz] at h
  refine bg ((cH (cE ay)).trans ((fv ei h).trans ?_))
  cases hf:fW g.n g.town g.clues with
  | none=>exact (bJ (bx (fV (af rfl) ig) a_ (fT (b:=0))) (aX (cE (ai bZ ay)))).trans rfl
  | some x=>exact (aI (bx (fV (af rfl) ig) a_ (fT (b:=0)))).trans ((aX (af rfl)).trans rfl)
end Tn
namespace Tn
open PySem Mi Xa
theorem Ut {ρ:eM} {c a b:E} {d:D} {p:Bool} (hc:bH c ρ=some (.bl p)) (ha:p=true→bH a ρ=some d) (hb:p=false→bH b ρ=some d):bH (.ite c a b) ρ=some d:=by
 simp only [bH];rw [hc]
 cases p with
 | true=>exact ha rfl
 | false=>exact hb rfl
theorem pj {α:Type} (f:α→List Nat):∀(L:List α) (acc:List Nat),L.foldl (fun acc l=>acc++f l) acc=acc++L.flatMap f
 | [],acc=>by simp
 | l::L,acc=>by rw [b9,pj f L,b_,de]
theorem IA {d:D} {f:Str} {l:List Nat} (h:qo d f=some (iL l)):bQ 2 (.cons (.ret (.un .len (.comp (.nm 1) (.lst (.fld (.var 0) f)) (.yes (.op .gt (.var 1) (.int 0))) (.var 1))) []) .nil) [d]=some (iN (aD l)):=by
 refine bg (aX (fV ((eG (eT (cq (af rfl) h)) (iD iN (fun x=>decide (0 < x)) iN l fun x hx=>⟨_,rfl,oX (bx (af rfl) a_ (jD (b:=0))),fun _=>af rfl⟩)).trans rfl) ?_))
 exact (ig (l:=l.filter fun x=>decide (0 < x))).trans (by rw [EL])
noncomputable def n_:Ss:=(.cons (.ret (.un .len (.comp (.nm 1) (.lst (.fld (.var 0) "clues")) (.yes (.op .gt (.var 1) (.int 0))) (.var 1))) []) .nil)
noncomputable def xS (x:ag×Nat×Nat):D:=.obj ["n","cells","clues","earlier","later"] [iN x.1.n,iL x.1.town,iL x.1.clues.flatten,.lst (aH x.2.1 .any),.lst (aH x.2.2 .any)]
theorem C6 {a b:ag×Nat×Nat} (h:xS a=xS b):a.1.n=b.1.n∧a.1.town=b.1.town∧a.1.clues.flatten=b.1.clues.flatten∧a.2.1=b.2.1∧a.2.2=b.2.2:=by
 unfold xS at h
 injection h with _ h
 injection h with h1 h
 injection h with h2 h
 injection h with h3 h
 injection h with h4 h
 injection h with h5 h
 injection h4 with h4
 injection h5 with h5
 have h4:=congrArg mq h4
 have h5:=congrArg mq h5
 rw [c9,c9] at h4 h5
 exact ⟨cx h1,gg h2,gg h3,h4,h5⟩
theorem Xz (x:ag×Nat×Nat):qo (xS x) "n" = some (iN x.1.n):=by
 show look "n" ["n","cells","clues","earlier","later"] _=_
 unfold look;rw [if_pos rfl]
theorem L1 (x:ag×Nat×Nat):qo (xS x) "cells" = some (iL x.1.town):=by
 show look "cells" ["n","cells","clues","earlier","later"] _=_
 unfold look;rw [if_neg (by decide +kernel)];unfold look;rw [if_pos rfl]
theorem L3 (x:ag×Nat×Nat):qo (xS x) "clues" = some (iL x.1.clues.flatten):=by
 show look "clues" ["n","cells","clues","earlier","later"] _=_
 unfold look;rw [if_neg (by decide +kernel)];unfold look;rw [if_neg (by decide +kernel)];unfold look;rw [if_pos rfl]
theorem GZ (x:ag×Nat×Nat):qo (xS x) "earlier" = some (.lst (aH x.2.1 .any)):=by
 show look "earlier" ["n","cells","clues","earlier","later"] _=_
 unfold look;rw [if_neg (by decide +kernel)];unfold look;rw [if_neg (by decide +kernel)];unfold look;rw [if_neg (by decide +kernel)];unfold look;rw [if_pos rfl]
theorem L4 (x:ag×Nat×Nat):qo (xS x) "later" = some (.lst (aH x.2.2 .any)):=by
 show look "later" ["n","cells","clues","earlier","later"] _=_
 unfold look;rw [if_neg (by decide +kernel)];unfold look;rw [if_neg (by decide +kernel)];unfold look;rw [if_neg (by decide +kernel)];unfold look;rw [if_neg (by decide +kernel)];unfold look;rw [if_pos rfl]
noncomputable def jr:List D→Option D:=kI (fun x:ag×Nat×Nat=>[xS x]) (fun _=>True) (fun x=>iN (aD x.1.town))
noncomputable def kL:List D→Option D:=kI (fun x:ag×Nat×Nat=>[xS x]) (fun _=>True) (fun x=>iN (aD x.1.clues.flatten))
theorem vt (x:ag×Nat×Nat):jr [xS x]=some (iN (aD x.1.town)) :=
 b4 (x:=x) trivial fun y h _=>by injection h with h _;rw [(C6 h).2.1]
theorem zd (x:ag×Nat×Nat):kL [xS x]=some (iN (aD x.1.clues.flatten)) :=
 b4 (x:=x) trivial fun y h _=>by injection h with h _;rw [(C6 h).2.2.1]
theorem vv:∀ds d,jr ds=some d→bQ 2 gB ds=some d:=fun ds d h=>by
 obtain ⟨x,rfl,hp,rfl⟩:=bj h
 exact IA (L1 x)
theorem ze:∀ds d,kL ds=some d→bQ 2 n_ ds=some d:=fun ds d h=>by
 obtain ⟨x,rfl,hp,rfl⟩:=bj h
 exact IA (L3 x)
noncomputable def j0:Ss:=(.cons (.ret (.lst (.cons (.call "count_towers" jr (.cons (.var 0) .nil)) (.cons (.fld (.var 0) "n") (.cons (.call "count_clues" kL (.cons (.var 0) .nil)) (.cons (.un .len (.fld (.var 0) "earlier")) (.cons (.un .len (.fld (.var 0) "later")) .nil)))))) []) .nil)
noncomputable def tf (x:ag×Nat×Nat):aW:=⟨aD x.1.town,[x.1.n,(x.1.clues.flatten.filter fun y=>y != 0).length,x.2.1,x.2.2]⟩
theorem pq (k:Nat):vU .len (.lst (aH k .any))=some (iN k):=by
 show some (D.int ((aH k D.any).length:Nat))=_
 rw [c9];rfl
theorem vw (x:ag×Nat×Nat):bQ 1 j0 [xS x]=some (dq (tf x)) :=
 bg (aX (cE (ai (aM (ai (af rfl) ay) (vt x)) (ai (cq (af rfl) (Xz x)) (ai (aM (ai (af rfl) ay) (zd x)) (ai (fV (cq (af rfl) (GZ x)) (pq _)) (ai (fV (cq (af rfl) (L4 x)) (pq _)) ay)))))))
noncomputable def gY:Ss:=(.cons (.ext 1 (.comp (.nm 3) (.pW (.fld (.var 0) "n")) .no (.call "count_seen" di (.cons (.call "line_towers" cy (.cons (.var 0) (.cons (.var 2) (.cons (.var 3) .nil)))) .nil))) []) .nil)
noncomputable def j3:S:=.jM (.nm 2) (.pW (.gl "SIDES" (.int 4))) [] gY
noncomputable def lR:Ss:=(.cons (.own 1 (.lst .nil) []) (.cons (.jM (.nm 2) (.pW (.gl "SIDES" (.int 4))) [] gY) (.cons (.ret (.var 1) [1]) .nil)))
theorem B2 {g:ag} (ok:cP g):∃x,uI j3 [.fz (tD g),.ow [],.no,.no]=some (.nx [.fz (tD g),.ow ((cz g).flatten.map iN),x,.no]):=by
 have hn:=ok.hi
 have hz:(1000:Nat)≤sizeLine:=by decide
 obtain ⟨s',h,_,x,rfl⟩:=dE (t:=.nm 2) (body:=cf gY) iN (fun acc k=>acc++(aq g.n).map (dC g.n g.town k))
  (fun b r s=>b.length+r.length*4≤100∧∃x,s=[.fz (tD g),.ow (b.map iN),x,.no])
  (fun b k r s ⟨hb,x,hs⟩=>by
   subst hs
   rw [az] at hb
   refine ⟨_,[.fz (tD g),.ow ((b++(aq g.n).map (dC g.n g.town k)).map iN),.fz (iN k),.no],rfl,?_,by rw [ax,ah,aQ];omega,_,rfl⟩
   refine (yE (l:=((aq g.n).map (dC g.n g.town k)).map iN) ((eG (jc (cq (af rfl) (gL g)) (rP (by omega))) (dD iN (fun i=>iN (dC g.n g.town k i)) (aq g.n) fun i hi=>⟨_,rfl,kW,aM (ai (aM (ai (af rfl) (ai (af rfl) (ai (af rfl) ay))) (eI ok (aT.mp hi))) ay) (h8 _)⟩)).trans (by rw [jR];rfl)) ?_).trans rfl
   show (if (b.map iN).length+(((aq g.n).map (dC g.n g.town k)).map iN).length≤sizeLine then some _ else none)=_
   rw [if_pos (by rw [ah,ah,ah,aQ];omega),bq]
   rfl) (aq 4) [] [.fz (tD g),.ow [],.no,.no] ⟨by simp,.no,rfl⟩
 rw [pj,fC] at h
 have e4:pX (.pW (.gl "SIDES" (.int 4))) (view (freeze [] [.fz (tD g),.ow [],.no,.no]))=some ((aq 4).map iN):=jc (x:=iN 4) bZ (rP (by omega))
 have ev:(aq 4).flatMap (fun k=>(aq g.n).map (dC g.n g.town k))=(cz g).flatten:=by rw [List.flatMap_def];rfl
 rw [ev] at h
 exact ⟨x,by unfold j3;simp only [uI];rw [e4,bz];exact h⟩
theorem zf {g:ag} (ok:cP g):bQ 4 lR [tD g]=some (iL (cz g).flatten):=by
 obtain ⟨x,h⟩:=B2 ok
 refine bg ((oY (cE ay)).trans (Eq.trans (b:=cf (.cons (.ret (.var 1) [1]) .nil) [.fz (tD g),.ow ((cz g).flatten.map iN),x,.no]) ?_ (aX (af rfl))))
 show cf (.cons j3 _) [.fz (tD g),.ow [],.no,.no]=_
 rw [cf,h];rfl
noncomputable def lS:List D→Option D:=kI (fun x:ag=>[tD x]) (fun x=>cP x) (fun x=>iL (cz x).flatten)
theorem AI {g:ag} (ok:cP g):lS [tD g]=some (iL (cz g).flatten) :=
 b4 (x:=g) ok fun y h hy=>by injection h with h1 h;rw [dQ hy ok h1]
theorem AJ:∀ds d,lS ds=some d→bQ 4 lR ds=some d:=fun ds d h=>by
 obtain ⟨x,rfl,hp,rfl⟩:=bj h
 exact zf hp
theorem B3 (g:ag):(cz g).flatten.length=4*g.n:=by
 rw [jj (n:=g.n)]
 ·unfold cz;rw [ah,aQ]
 ·intro q hq
  unfold cz at hq
  obtain ⟨k,_,rfl⟩:=bf.mp hq
  rw [ah,aQ]
theorem Fb (g:ag):gF g=!decide (0∈g.town):=by
 unfold gF
 rw [eh,aZ,fA,decide_eq_false_iff_not]
 exact ⟨fun h h0=>absurd (h 0 h0) (by decide),fun h x hx=>bne_iff_ne.mpr fun e=>h (e▸hx)⟩
noncomputable def mH:Ss:=(.cons (.jL (.op .isin (.int 0) (.fld (.var 0) "cells")) (.cons (.ret (.lst (.cons (.gl "NO_TOWER" (.int (-12))) .nil)) []) .nil) .nil) (.cons (.asg 1 (.call "town_views" lS (.cons (.var 0) .nil)) []) (.cons (.ret (.op .add (.lst (.cons (.un .len (.var 1)) .nil)) (.var 1)) []) .nil)))
theorem vA {g:ag} (ok:cP g):bQ 2 mH [tD g]=some (dq (told g .views)):=by
 have hn:=ok.hi
 have e:told g .views=if gF g=true then vP (cz g).flatten else aw (-12):=by
  show (if gF g=true then _ else _:Option aE×aW).2=_
  split<;>rfl
 have ec:∀{s:List Sl},fR (bA s) 0=some (tD g)→bH (.op .isin (.int 0) (.fld (.var 0) "cells")) (bA s)=some (.bl (decide (0∈g.town))):=fun h=>bx a_ (cq (af h) (eP g)) (Lz (x:=0))
 rw [e,Fb]
 by_cases h:0∈g.town
 ·rw [decide_eq_true h]
  exact bg (bJ ((ec rfl).trans (by rw [decide_eq_true h])) (aX (cE (ai bZ ay))))
 ·rw [decide_eq_false h]
  exact bg ((aI ((ec rfl).trans (by rw [decide_eq_false h]))).trans ((cH (aM (ai (af rfl) ay) (AI ok))).trans ((aX (bx (cE (ai (fV (af rfl) ig) ay)) (af rfl) (ni (l:=(cz g).flatten) (by rw [B3];omega)))).trans rfl)))
noncomputable def ky:Ss:=(.cons (.ext 2 (.call "line_towers" cy (.cons (.var 0) (.cons (.var 1) (.cons (.var 3) .nil)))) []) .nil)
noncomputable def kM:Ss:=(.cons (.own 2 (.lst .nil) []) (.cons (.jM (.nm 3) (.pW (.fld (.var 0) "n")) [] ky) (.cons (.ret (.var 2) [2]) .nil)))
noncomputable def oN (g:ag) (k:Nat):List Nat:=(aq g.n).flatMap (dm g k)
theorem wL {g:ag} {k:Nat} (ok:cP g):bQ 4 kM [tD g,iN k]=some (iL (oN g k)):=by
 have hn:=ok.hi
 have hz:(1000:Nat)≤sizeLine:=by decide
 obtain ⟨s',h,_,_,x,rfl⟩:=dE (t:=.nm 3) (body:=cf ky) iN (fun acc i=>acc++dm g k i)
  (fun b r s=>b.length+r.length*4≤100∧(∀i∈r,i < g.n)∧∃x,s=[.fz (tD g),.fz (iN k),.ow (b.map iN),x])
  (fun b i r s ⟨hb,hr,x,hs⟩=>by
   subst hs
   rw [az] at hb
   have hl:=jw g k i
   refine ⟨_,[.fz (tD g),.fz (iN k),.ow ((b++dm g k i).map iN),.fz (iN i)],rfl,?_,by rw [ax];omega,fun t ht=>hr t (by simp [ht]),_,rfl⟩
   refine (yE (aM (ai (af rfl) (ai (af rfl) (ai (af rfl) ay))) (eI ok (hr i (by simp)))) ?_).trans rfl
   show (if (b.map iN).length+((dm g k i).map iN).length≤sizeLine then some _ else none)=_
   rw [if_pos (by rw [ah,ah];omega),bq]
   rfl) (aq g.n) [] [.fz (tD g),.fz (iN k),.ow [],.no] ⟨by simp;omega,fun i hi=>aT.mp hi,.no,rfl⟩
 rw [pj,fC] at h
 exact bg ((oY (cE ay)).trans ((fv (jc (cq (af rfl) (gL g)) (rP (by omega))) h).trans (aX (af rfl))))
noncomputable def ia:List D→Option D:=kI (fun x:ag×Nat=>[tD x.1,iN x.2]) (fun x=>cP x.1) (fun x=>iL (oN x.1 x.2))
theorem qG {g:ag} {k:Nat} (ok:cP g):ia [tD g,iN k]=some (iL (oN g k)) :=
 b4 (x:=(g,k)) ok fun y h hy=>by
  obtain ⟨a,b⟩:=y
  injection h with h1 h;injection h with h2 h
  rw [dQ hy ok h1,cx h2]
theorem zg:∀ds d,ia ds=some d→bQ 4 kM ds=some d:=fun ds d h=>by
 obtain ⟨x,rfl,hp,rfl⟩:=bj h
 exact wL hp
noncomputable def lT:Ss:=(.cons (.ret (.sl (.fld (.var 0) "clues") (.yes (.op .mul (.var 1) (.fld (.var 0) "n"))) (.yes (.op .mul (.op .add (.var 1) (.int 1)) (.fld (.var 0) "n")))) []) .nil)
theorem Fc:∀{c:List (List Nat)} {n k:Nat},(∀l∈c,l.length=n)→k < c.length→((c.flatten.drop (k*n)).take n)=c.getD k []
 | [],_,_,_,h=>by simp at h
 | x::c,n,0,hc,_=>by
  have hx:=hc x (by simp)
  rw [kY,List.drop_zero,bB,List.take_append_of_le_length (by omega),d7 (by omega)]
  rfl
 | x::c,n,k+1,hc,hk=>by
  have hx:=hc x (by simp)
  have ih:=Fc (c:=c) (n:=n) (k:=k) (fun l hl=>hc l (by simp [hl])) (by simpa using hk)
  rw [bB,gE,iw,r6,←DT,←hx,DU,hx,ih]
  rfl
theorem Rh {l:List Nat} {a b:Nat}:J7 (iL l) (some (a:Int)) (some (b:Int))=some (iL ((l.drop (min a l.length)).take (min b l.length - min a l.length))):=by
 have e:J7 (iL l) (some (a:Int)) (some (b:Int))=some (.lst (((l.map iN).drop (min a (l.map iN).length)).take (min b (l.map iN).length - min a (l.map iN).length))):=rfl
 rw [e,ah,←pV,←pU]
 rfl
noncomputable def dM (g:ag) (k:Nat):List Nat:=(aq g.n).map (a8 g.clues k)
theorem L5 {g:ag} {k:Nat} (ok:cP g) (hk:k < 4):g.clues.getD k []=dM g k:=by
 have hl:(g.clues.getD k []).length=g.n:=by
  rw [ak,au (by rw [ok.four];exact hk)]
  exact ok.row _ (cS _)
 exact uo hl
theorem zh {g:ag} {k:Nat} (ok:cP g) (hk:k < 4):bQ 2 lT [tD g,iN k]=some (iL (dM g k)):=by
 have hf:g.clues.flatten.length=4*g.n:=by rw [jj ok.row,ok.four]
 have hle:(k+1)*g.n≤4*g.n:=mV _ hk
 have e:(k+1)*g.n=k*g.n+g.n:=by rw [gE,iw]
 refine bg (aX ((EE (cq (af rfl) (oG g)) (pO (bx (af rfl) (cq (af rfl) (gL g)) (qu (by omega)))) (pO (bx (bx (af rfl) a_ (eH (b:=1))) (cq (af rfl) (gL g)) (qu (by omega)))) Rh).trans ?_))
 rw [hf,fI hle,fI (show k*g.n≤4*g.n by omega),e,hJ,Fc ok.row (by rw [ok.four];exact hk),L5 ok hk]
noncomputable def j4:List D→Option D:=kI (fun x:ag×Nat=>[tD x.1,iN x.2]) (fun x=>cP x.1∧x.2 < 4) (fun x=>iL (dM x.1 x.2))
theorem fB {g:ag} {k:Nat} (ok:cP g) (hk:k < 4):j4 [tD g,iN k]=some (iL (dM g k)) :=
 b4 (x:=(g,k)) ⟨ok,hk⟩ fun y h hy=>by
  obtain ⟨a,b⟩:=y
  injection h with h1 h;injection h with h2 h
  rw [dQ hy.1 ok h1,cx h2]
theorem AK:∀ds d,j4 ds=some d→bQ 2 lT ds=some d:=fun ds d h=>by
 obtain ⟨x,rfl,hp,rfl⟩:=bj h
 exact zh hp.1 hp.2
end Tn
namespace Tn
open PySem Mi Xa
noncomputable def px:Ss:=(.cons (.ret (.comp (.nm 1) (.lst (.var 0)) .no (.ite (.op .gt (.var 1) (.int 0)) (.op .add (.gl "DIGIT_ZERO" (.int 48)) (.var 1)) (.gl "DOT" (.int 46)))) []) .nil)
theorem C7 (l:List Nat):bQ 2 px [iL l]=some (iL (l.map fX)):=by
 refine bg (aX ((eG (eT (af rfl)) (dD iN (fun x=>iN (fX x)) l fun x hx=>⟨_,rfl,kW,Ut (p:=decide (0 < x)) (bx (af rfl) a_ (jD (b:=0))) (fun h=>(bx bZ (af rfl) (eH (a:=48))).trans ?_) (fun h=>bZ.trans ?_)⟩)).trans (by rw [jR])))
 ·rw [decide_eq_true_eq] at h
  unfold fX
  rw [if_neg (by omega)]
 ·rw [decide_eq_false_iff_not] at h
  unfold fX
  rw [if_pos (by omega)];rfl
noncomputable def iJ:List D→Option D:=kI (fun x:List Nat=>[iL x]) (fun x=>True) (fun x=>iL (x.map fX))
theorem wc (l:List Nat):iJ [iL l]=some (iL (l.map fX)) :=
 b4 (x:=l) trivial fun y h hy=>by
  injection h with h1 h
  rw [gg h1]
theorem Fd:∀ds d,iJ ds=some d→bQ 2 px ds=some d:=fun ds d h=>by
 obtain ⟨x,rfl,hp,rfl⟩:=bj h
 exact C7 x
noncomputable def nu:Ss:=(.cons (.asg 2 (.comp (.nm 3) (.pW (.fld (.var 0) "n")) .no (.call "line_clue" cb (.cons (.var 0) (.cons (.var 1) (.cons (.var 3) .nil))))) []) (.cons (.ret (.op .add (.op .add (.lst (.cons (.gl "BLANK" (.int 32)) .nil)) (.call "signs_of" iJ (.cons (.var 2) .nil))) (.lst (.cons (.gl "BLANK" (.int 32)) (.cons (.gl "LINE_END" (.int 10)) .nil)))) []) .nil))
noncomputable def fj (g:ag) (k:Nat):List Nat:=32::(aq g.n).map (fun i=>fX (a8 g.clues k i))++[32,10]
theorem tj {g:ag} {k:Nat} (ok:cP g) (hk:k < 4):bH (.comp (.nm 3) (.pW (.fld (.var 0) "n")) .no (.call "line_clue" cb (.cons (.var 0) (.cons (.var 1) (.cons (.var 3) .nil))))) [some (tD g),some (iN k),none,none]=some (iL (dM g k)) ∧
  bH (.op .add (.lst (.cons (.gl "BLANK" (.int 32)) .nil)) (.call "signs_of" iJ (.cons (.var 2) .nil))) [some (tD g),some (iN k),some (iL (dM g k)),none]=some (iL (32::(dM g k).map fX)):=by
 have hn:=ok.hi
 refine ⟨(eG (jc (cq (af rfl) (gL g)) (rP (by omega))) (dD iN (fun i=>iN (a8 g.clues k i)) (aq g.n) fun i hi=>⟨_,rfl,kW,aM (ai (af rfl) (ai (af rfl) (ai (af rfl) ay))) (eB ok hk (aT.mp hi))⟩)).trans (by rw [jR];rfl),?_⟩
 exact bx (cE (ai bZ ay)) (aM (ai (af rfl) ay) (wc _)) (ni (x:=32) (by unfold dM;rw [ah,ah,aQ];omega))
theorem L6 {g:ag} {k:Nat} (ok:cP g):i9 .add (iL (32::(dM g k).map fX)) (iL [32,10])=some (iL (fj g k)):=by
 have hn:=ok.hi
 rw [mx (by unfold dM;rw [az,ah,ah,aQ];show _+1+2≤1000;omega)]
 unfold fj dM
 rw [ba];rfl
theorem Fe {ρ:eM}:bH (.lst (.cons (.gl "BLANK" (.int 32)) (.cons (.gl "LINE_END" (.int 10)) .nil))) ρ=some (iL [32,10]):=(cE (ai bZ (ai bZ ay))).trans rfl
theorem AL {g:ag} {k:Nat} (ok:cP g) (hk:k < 4):bQ 4 nu [tD g,iN k]=some (iL (fj g k)):=by
 have a:bH (.comp (.nm 3) (.pW (.fld (.var 0) "n")) .no (.call "line_clue" cb (.cons (.var 0) (.cons (.var 1) (.cons (.var 3) .nil))))) (view (freeze [] [.fz (tD g),.fz (iN k),.no,.no]))=some (iL (dM g k)):=(tj ok hk).1
 refine bg ((cH a).trans (aX (d:=iL (fj g k)) ?_))
 exact bx (tj ok hk).2 Fe (L6 ok)
noncomputable def jE:List D→Option D:=kI (fun x:ag×Nat=>[tD x.1,iN x.2]) (fun x=>cP x.1∧x.2 < 4) (fun x=>iL (fj x.1 x.2))
theorem C8 {g:ag} {k:Nat} (ok:cP g) (hk:k < 4):jE [tD g,iN k]=some (iL (fj g k)) :=
 b4 (x:=(g,k)) ⟨ok,hk⟩ fun y h hy=>by
  obtain ⟨a,b⟩:=y
  injection h with h1 h;injection h with h2 h
  rw [dQ hy.1 ok h1,cx h2]
theorem C9:∀ds d,jE ds=some d→bQ 4 nu ds=some d:=fun ds d h=>by
 obtain ⟨x,rfl,hp,rfl⟩:=bj h
 exact AL hp.1 hp.2
noncomputable def pz:Ss:=(.cons (.asg 2 (.op .add (.op .add (.lst (.cons (.call "line_clue" cb (.cons (.var 0) (.cons (.gl "LEFT" (.int 3)) (.cons (.var 1) .nil)))) .nil)) (.call "line_towers" cy (.cons (.var 0) (.cons (.gl "LEFT" (.int 3)) (.cons (.var 1) .nil))))) (.lst (.cons (.call "line_clue" cb (.cons (.var 0) (.cons (.gl "RIGHT" (.int 1)) (.cons (.var 1) .nil)))) .nil))) []) (.cons (.ret (.op .add (.call "signs_of" iJ (.cons (.var 2) .nil)) (.lst (.cons (.gl "LINE_END" (.int 10)) .nil))) []) .nil))
noncomputable def rT (g:ag) (y:Nat):List Nat:=fX (a8 g.clues 3 y)::((aq g.n).map fun x=>fX (aA g.town (y*g.n+x)))++[fX (a8 g.clues 1 y),10]
theorem C_ {g:ag} {y:Nat} (ok:cP g) (hy:y < g.n):bQ 3 pz [tD g,iN y]=some (iL (rT g y)):=by
 have hn:=ok.hi
 have hl:=jw g 3 y
 have a1:=eB (k:=3) ok (by decide) hy
 have a2:=eB (k:=1) ok (by decide) hy
 refine bg ((cH (bx (bx (cE (ai (aM (ai (af rfl) (ai bZ (ai (af rfl) ay))) a1) ay)) (aM (ai (af rfl) (ai bZ (ai (af rfl) ay))) (eI (k:=3) ok hy)) (ni (by omega))) (cE (ai (aM (ai (af rfl) (ai bZ (ai (af rfl) ay))) a2) ay)) (mx (b:=[a8 g.clues 1 y]) (by rw [az];show _+1+1≤1000;omega)))).trans ((aX (bx (aM (ai (af rfl) ay) (wc _)) (cE (ai bZ ay)) (mx (b:=[10]) (by rw [ah,ax,az];show _+1+1+1≤1000;omega)))).trans ?_))
 congr 3
 unfold rT dm a7
 rw [bq,aO,ba,ba,de]
 rfl
noncomputable def mI:List D→Option D:=kI (fun x:ag×Nat=>[tD x.1,iN x.2]) (fun x=>cP x.1∧x.2 < x.1.n) (fun x=>iL (rT x.1 x.2))
theorem Ff {g:ag} {y:Nat} (ok:cP g) (hy:y < g.n):mI [tD g,iN y]=some (iL (rT g y)) :=
 b4 (x:=(g,y)) ⟨ok,hy⟩ fun y h hy=>by
  obtain ⟨a,b⟩:=y
  injection h with h1 h;injection h with h2 h
  rw [dQ hy.1 ok h1,cx h2]
theorem Fg:∀ds d,mI ds=some d→bQ 3 pz ds=some d:=fun ds d h=>by
 obtain ⟨x,rfl,hp,rfl⟩:=bj h
 exact C_ hp.1 hp.2
noncomputable def kz:Ss:=(.cons (.ext 1 (.call "row_line" mI (.cons (.var 0) (.cons (.var 2) .nil))) []) .nil)
noncomputable def mJ:Ss:=(.cons (.jM (.nm 2) (.pW (.fld (.var 0) "n")) [] kz) (.cons (.ext 1 (.call "edge_line" jE (.cons (.var 0) (.cons (.gl "BELOW" (.int 2)) .nil))) []) (.cons (.ret (.op .add (.lst (.cons (.un .len (.var 1)) .nil)) (.var 1)) [1]) .nil)))
theorem vB {g:ag} (ok:cP g):cf mJ [.fz (tD g),.ow ((fj g 0).map iN),.no]=some (.rt (dq (told g .text))):=by
 have hn:=ok.hi
 have hz:(1000:Nat)≤sizeLine:=by decide
 have el:∀k,(fj g k).length≤7:=fun k=>by unfold fj;rw [ax,az,ah,aQ];show _+1+2≤7;omega
 have rl:∀y,(rT g y).length≤7:=fun k=>by unfold rT;rw [ax,az,ah,aQ];show _+1+2≤7;omega
 obtain ⟨s',h,hb,_,x,rfl⟩:=dE (t:=.nm 2) (body:=cf kz) iN (fun acc y=>acc++rT g y)
  (fun b r s=>b.length+r.length*7≤100∧(∀y∈r,y < g.n)∧∃x,s=[.fz (tD g),.ow (b.map iN),x])
  (fun b y r s ⟨hb,hr,x,hs⟩=>by
   subst hs
   rw [az] at hb
   have:=rl y
   refine ⟨_,[.fz (tD g),.ow ((b++rT g y).map iN),.fz (iN y)],rfl,?_,by rw [ax];omega,fun t ht=>hr t (by simp [ht]),_,rfl⟩
   refine (yE (aM (ai (af rfl) (ai (af rfl) ay)) (Ff ok (hr y (by simp)))) ?_).trans rfl
   show (if (b.map iN).length+((rT g y).map iN).length≤sizeLine then some _ else none)=_
   rw [if_pos (by rw [ah,ah];omega),bq]
   rfl) (aq g.n) (fj g 0) [.fz (tD g),.ow ((fj g 0).map iN),.no] ⟨by have:=el 0;rw [aQ];omega,fun i hi=>aT.mp hi,.no,rfl⟩
 rw [pj] at h hb
 rw [List.length_nil,kY,k0] at hb
 have:=el 2
 have e2:CB [.fz (tD g),.ow ((fj g 0++(aq g.n).flatMap (rT g)).map iN),x] 1 ((fj g 2).map iN)=some [.fz (tD g),.ow ((fj g 0++(aq g.n).flatMap (rT g)++fj g 2).map iN),x]:=by
  show (if ((fj g 0++(aq g.n).flatMap (rT g)).map iN).length+((fj g 2).map iN).length≤sizeLine then some _ else none)=_
  rw [if_pos (by rw [ah,ah];omega),bq (l₂:=fj g 2)]
  rfl
 have e3:bH (.call "edge_line" jE (.cons (.var 0) (.cons (.gl "BELOW" (.int 2)) .nil))) (view (freeze [] [.fz (tD g),.ow ((fj g 0++(aq g.n).flatMap (rT g)).map iN),x]))=some (iL (fj g 2)):=aM (ai (af rfl) (ai bZ ay)) (C8 (k:=2) ok (by decide))
 refine (fv (jc (cq (af rfl) (gL g)) (rP (by omega))) h).trans ((yE (l:=(fj g 2).map iN) e3 e2).trans ?_)
 have hl:(fj g 0++(aq g.n).flatMap (rT g)++fj g 2).length≤999:=by rw [ax];omega
 have et:told g .text=vP (fj g 0++(aq g.n).flatMap (rT g)++fj g 2):=rfl
 rw [et]
 generalize fj g 0++(aq g.n).flatMap (rT g)++fj g 2=A at hl
 refine (aX (d:=iL (A.length::A)) ?_).trans rfl
 exact bx (cE (ai (fV (x:=iL A) (af rfl) ig) ay)) (af rfl) (ni hl)
noncomputable def fD (n:Nat) (t:List Nat):D:=.obj ["n","cells"] [iN n,iL t]
theorem Dc {n m:Nat} {t u:List Nat} (h:fD n t=fD m u):n=m∧t=u:=by
 unfold fD at h
 injection h with _ h
 injection h with h1 h
 injection h with h2 h
 exact ⟨cx h1,gg h2⟩
theorem Ri (n:Nat) (t:List Nat):qo (fD n t) "n" = some (iN n):=by
 show look "n" ["n","cells"] _=_
 unfold look;rw [if_pos rfl]
theorem L7 (n:Nat) (t:List Nat):qo (fD n t) "cells" = some (iL t):=by
 show look "cells" ["n","cells"] _=_
 unfold look;rw [if_neg (by decide +kernel)];unfold look;rw [if_pos rfl]
noncomputable def gC:List D→Option D:=kI (fun x:Nat×List Nat×Nat×Nat=>[fD x.1 x.2.1,iN x.2.2.1,iN x.2.2.2]) (fun x=>x.1≤4∧x.2.1.length=x.1*x.1∧x.2.2.2 < x.1) (fun x=>iL ((a7 x.1 x.2.2.1 x.2.2.2).map (aA x.2.1)))
theorem wM {n k i:Nat} {t:List Nat} (hn:n≤4) (ht:t.length=n*n) (hi:i < n):gC [fD n t,iN k,iN i]=some (iL ((a7 n k i).map (aA t))) :=
 b4 (x:=(n,t,k,i)) ⟨hn,ht,hi⟩ fun y h hy=>by
  obtain ⟨a,b,c,d⟩:=y
  injection h with h1 h;injection h with h2 h;injection h with h3 _
  rw [(Dc h1).1,(Dc h1).2,cx h2,cx h3]
theorem wN:∀ds d,gC ds=some d→bQ 4 h7 ds=some d:=fun ds d h=>by
 obtain ⟨⟨n,t,k,i⟩,rfl,⟨hn,ht,hi⟩,rfl⟩:=bj h
 have hn:n≤4:=hn
 refine bg (aX ((eG (eT (aM (ai (cq (af rfl) (Ri n t)) (ai (af rfl) (ai (af rfl) ay))) (jg hn (bE hi (by omega)))))
  (dD iN (fun p=>iN (aA t p)) (a7 n k i) fun p hp=>⟨_,rfl,kW,eA (cq (af rfl) (L7 n t)) (af rfl) (jQ ?_)⟩)).trans (by rw [jR])))
 have ht:t.length=n*n:=ht
 rw [ht]
 exact oZ hi hp
noncomputable def cI:Ss:=(.cons (.jL (.op .ne (.call "count_seen" di (.cons (.call "line_towers" gC (.cons (.var 0) (.cons (.op .fdiv (.var 3) (.fld (.var 0) "n")) (.cons (.op .mod (.var 3) (.fld (.var 0) "n")) .nil)))) .nil)) (.var 4)) (.cons (.jL (.op .gt (.un .len (.var 2)) (.int 0)) (.cons (.ret (.lst .nil) []) .nil) .nil) (.cons (.app 2 (.var 3) []) .nil)) .nil) .nil)
noncomputable def lU:Ss:=(.cons (.own 2 (.lst .nil) []) (.cons (.jM (.tp [3,4]) (.lst (.var 1)) [] cI) (.cons (.ret (.var 2) [2]) .nil)))
noncomputable def isBad (n:Nat) (w:List Nat) (x:Nat×Nat):Bool:=dC n w (x.1 / n) (x.1 % n) != x.2
noncomputable def mK (n:Nat) (w:List Nat) (T:List (Nat×Nat)):List Nat:=(T.filter (isBad n w)).map Prod.fst
theorem tm {n:Nat} {w:List Nat} {U:List (Nat×Nat)} (h1:1≤n) (hn:n≤4) (hw:w.length=n*n):∀(T:List (Nat×Nat)) (W:List Nat) (x y:Sl),W.length≤1 →
  ((W++mK n w T).length≤1→∃x' y',loop (.tp [3,4]) (cf cI) (T.map oq) [.fz (fD n w),.fz (.lst (U.map oq)),.ow (W.map iN),x,y]=some (.nx [.fz (fD n w),.fz (.lst (U.map oq)),.ow ((W++mK n w T).map iN),x',y'])) ∧
  (1 < (W++mK n w T).length→loop (.tp [3,4]) (cf cI) (T.map oq) [.fz (fD n w),.fz (.lst (U.map oq)),.ow (W.map iN),x,y]=some (.rt (.lst [])))
 | [],W,x,y,hW=>by
  have e:W++mK n w []=W:=by unfold mK;simp
  rw [e]
  exact ⟨fun _=>⟨x,y,by simp [loop]⟩,fun h=>by omega⟩
 | z::T,W,x,y,hW=>by
  have hz:(1000:Nat)≤sizeLine:=by decide
  have hm:z.1 % n < n:=xu _ (by omega)
  have ec:bH (.op .ne (.call "count_seen" di (.cons (.call "line_towers" gC (.cons (.var 0) (.cons (.op .fdiv (.var 3) (.fld (.var 0) "n")) (.cons (.op .mod (.var 3) (.fld (.var 0) "n")) .nil)))) .nil)) (.var 4)) (bA [.fz (fD n w),.fz (.lst (U.map oq)),.ow (W.map iN),.fz (iN z.1),.fz (iN z.2)])=some (.bl (isBad n w z)) :=
   (bx (aM (ai (aM (ai (af rfl) (ai (bx (af rfl) (cq (af rfl) (Ri n w)) (Iq (by omega) (by omega))) (ai (bx (af rfl) (cq (af rfl) (Ri n w)) (LL (by omega))) ay))) (wM hn hw hm)) ay) (h8 _)) (af rfl) EH).trans (by rfl)
  have el:bH (.op .gt (.un .len (.var 2)) (.int 0)) (bA [.fz (fD n w),.fz (.lst (U.map oq)),.ow (W.map iN),.fz (iN z.1),.fz (iN z.2)])=some (.bl (decide (0 < W.length))):=bx (fV (af rfl) (ig (l:=W))) a_ (jD (b:=0))
  have go:∀{o:Option Out} {s2:List Sl},cf cI [.fz (fD n w),.fz (.lst (U.map oq)),.ow (W.map iN),.fz (iN z.1),.fz (iN z.2)]=some (.nx s2)→loop (.tp [3,4]) (cf cI) (T.map oq) s2=o→loop (.tp [3,4]) (cf cI) ((z::T).map oq) [.fz (fD n w),.fz (.lst (U.map oq)),.ow (W.map iN),x,y]=o:=fun h1 h2=>by
   rw [aO,loop]
   show (cf cI [.fz (fD n w),.fz (.lst (U.map oq)),.ow (W.map iN),.fz (iN z.1),.fz (iN z.2)]).bind _=_
   rw [h1]
   exact h2
  cases hb:isBad n w z with
  | false =>
   rw [hb] at ec
   have eb:mK n w (z::T)=mK n w T:=by unfold mK;rw [c5,hb];rfl
   rw [eb]
   obtain ⟨i1,i2⟩:=tm (U:=U) h1 hn hw T W (.fz (iN z.1)) (.fz (iN z.2)) hW
   have st:cf cI [.fz (fD n w),.fz (.lst (U.map oq)),.ow (W.map iN),.fz (iN z.1),.fz (iN z.2)]=some (.nx [.fz (fD n w),.fz (.lst (U.map oq)),.ow (W.map iN),.fz (iN z.1),.fz (iN z.2)]):=(aI ec).trans rfl
   refine ⟨fun h=>?_,fun h=>go st (i2 h)⟩
   obtain ⟨x',y',h'⟩:=i1 h
   exact ⟨x',y',go st h'⟩
  | true =>
   rw [hb] at ec
   have eb:mK n w (z::T)=z.1::mK n w T:=by unfold mK;rw [c5,hb];rfl
   rw [eb]
   by_cases hW0:0 < W.length
   ·rw [decide_eq_true hW0] at el
    refine ⟨fun h=>by simp at h;omega,fun _=>?_⟩
    have st:cf cI [.fz (fD n w),.fz (.lst (U.map oq)),.ow (W.map iN),.fz (iN z.1),.fz (iN z.2)]=some (.rt (.lst [])):=bJ ec (bJ el (aX (cE ay)))
    rw [aO,loop]
    show (cf cI [.fz (fD n w),.fz (.lst (U.map oq)),.ow (W.map iN),.fz (iN z.1),.fz (iN z.2)]).bind _=_
    rw [st];rfl
   ·have hW':W=[]:=mr (by omega)
    subst hW'
    have st:cf cI [.fz (fD n w),.fz (.lst (U.map oq)),.ow [],.fz (iN z.1),.fz (iN z.2)]=some (.nx [.fz (fD n w),.fz (.lst (U.map oq)),.ow [iN z.1],.fz (iN z.1),.fz (iN z.2)]):=(jP ec ((aI el).trans ((yD (af rfl) (by show (if 0+1≤sizeLine then some _ else none)=_;rw [if_pos (by omega)];rfl)).trans rfl))).trans rfl
    obtain ⟨i1,i2⟩:=tm (U:=U) h1 hn hw T [z.1] (.fz (iN z.1)) (.fz (iN z.2)) (by simp)
    refine ⟨fun h=>?_,fun h=>go st (i2 h)⟩
    obtain ⟨x',y',h'⟩:=i1 h
    exact ⟨x',y',go st h'⟩
theorem zi {n:Nat} {w:List Nat} {T:List (Nat×Nat)} (h1:1≤n) (hn:n≤4) (hw:w.length=n*n):bQ 5 lU [fD n w,.lst (T.map oq)]=some (iL (Xb.lD (mK n w T))):=by
 obtain ⟨i1,i2⟩:=tm (U:=T) h1 hn hw T [] .no .no (by simp)
 rw [fC] at i1 i2
 by_cases h:(mK n w T).length≤1
 ·obtain ⟨x,y,hl⟩:=i1 h
  refine bg ((oY (cE ay)).trans ((fv (eT (af rfl)) hl).trans ((aX (af rfl)).trans ?_)))
  unfold Xb.lD
  split
  ·rfl
  ·rw [mr (show (mK n w T).length=0 by omega)];rfl
 ·refine bg ((oY (cE ay)).trans ((ue (eT (af rfl)) (i2 (by omega))).trans ?_))
  unfold Xb.lD
  rw [if_neg (by omega)];rfl
theorem IB {x y:Nat×Nat} (h:oq x=oq y):x=y:=by
 unfold oq at h
 injection h with h
 injection h with h1 h
 injection h with h2 h
 exact Prod.ext (cx h1) (cx h2)
noncomputable def j5:List D→Option D:=kI (fun x:Nat×List Nat×List (Nat×Nat)=>[fD x.1 x.2.1,.lst (x.2.2.map oq)]) (fun x=>1≤x.1∧x.1≤4∧x.2.1.length=x.1*x.1) (fun x=>iL (Xb.lD (mK x.1 x.2.1 x.2.2)))
theorem AM {n:Nat} {w:List Nat} {T:List (Nat×Nat)} (h1:1≤n) (hn:n≤4) (hw:w.length=n*n):j5 [fD n w,.lst (T.map oq)]=some (iL (Xb.lD (mK n w T))) :=
 b4 (x:=(n,w,T)) ⟨h1,hn,hw⟩ fun y h hy=>by
  obtain ⟨a,b,c⟩:=y
  injection h with h1 h;injection h with h2 h
  injection h2 with h2
  rw [(Dc h1).1,(Dc h1).2,map_inj (fun _ _=>IB) h2]
theorem AN:∀ds d,j5 ds=some d→bQ 5 lU ds=some d:=fun ds d h=>by
 obtain ⟨x,rfl,hp,rfl⟩:=bj h
 exact zi hp.1 hp.2.1 hp.2.2
end Tn
namespace Tn
open PySem Mi Xa
theorem zj (n:Nat) (f:Nat→Nat):∀m:Nat,(aq (m*n)).map f=(aq m).flatMap fun i=>(aq n).map fun j=>f (i*n+j)
 | 0=>by simp
 | m+1=>by
  rw [gE,iw,List.range_add,bq,zj n f m,List.range_succ,MP,ba]
  simp
theorem IC {g:ag} {k:Nat} {f:Nat→Nat} (h:∀i j,i < g.n→j < g.n→f (i*g.n+j)=aA g.town ((a7 g.n k i).getD j 0)):(aq (g.n*g.n)).map f=oN g k:=by
 rw [zj]
 unfold oN
 apply Wy.kH
 intro i hi
 unfold dm a7
 rw [ba]
 apply bT
 intro j hj
 rw [aT] at hi hj
 rw [h i j hi hj]
 unfold a7
 rw [ak,b8,mW hj]
 rfl
theorem ID {n k i j:Nat} (hj:j < n) (f:Nat→Nat) (h:a7 n k i=(aq n).map f):(a7 n k i).getD j 0=f j:=by
 rw [h,ak,b8,mW hj]
 rfl
theorem JQ (g:ag):Aa g.n g.town=oN g 2:=IC fun i j hi hj=>by
 rw [ID hj _ rfl,(show (i*g.n+j) % g.n=j by rw [e8,DM,Br hj]),(show (i*g.n+j) / g.n=i by rw [e8,DL (by omega),ml hj,k0])]
 rfl
theorem Fh (g:ag):vQ g.n g.town=oN g 1:=IC fun i j hi hj=>by
 rw [ID hj _ rfl,(show (i*g.n+j) % g.n=j by rw [e8,DM,Br hj]),(show (i*g.n+j) / g.n=i by rw [e8,DL (by omega),ml hj,k0])]
 rfl
theorem ur {g:ag} {k:Nat} (h4:g.n≤4):(dM g k).reverse=(aq g.n).map fun i=>a8 g.clues k (g.n - 1 - i):=by
 unfold dM
 rw [←gW,oH h4,ba];rfl
theorem G0 {g:ag} (h4:g.n≤4):(fq g.n g.clues).flatten=(dM g 3).reverse++dM g 0++(dM g 1).reverse++dM g 2:=by
 rw [ur h4,ur h4]
 unfold fq dM
 simp
theorem De {g:ag} (h4:g.n≤4):(d8 g.n g.clues).flatten=(dM g 0).reverse++dM g 3++(dM g 2).reverse++dM g 1:=by
 rw [ur h4,ur h4]
 unfold d8 dM
 simp
theorem L8 {g:ag} (ok:cP g) (i:Nat):aA g.town i≤g.n:=by
 unfold aA
 rw [ak]
 cases h:g.town[i]? with
 | none=>exact c8 _
 | some x=>exact ok.GG x (b7 h)
theorem Oj {g:ag} (ok:cP g) (k i:Nat):a8 g.clues k i≤g.n:=by
 unfold a8
 rw [ak]
 cases h:(g.clues.getD k [])[i]? with
 | none=>exact c8 _
 | some x =>
  cases hk:g.clues[k]? with
  | none=>rw [ak,hk] at h;simp at h
  | some l =>
   rw [ak,hk] at h
   exact ok.clue l (b7 hk) x (b7 h)
theorem qH {g:ag} (ok:cP g) {t:List Nat} (ht:t.length=g.n*g.n) (hm:∀x∈t,x≤g.n) {c:List (List Nat)} (h4:c.length=4) (hr:∀l∈c,l.length=g.n) (hc:∀l∈c,∀x∈l,x≤g.n):cP ⟨g.n,t,c⟩:=⟨ok.lo,ok.hi,ht,hm,h4,hr,hc⟩
theorem uu {g:ag} (ok:cP g) {t:List Nat} (ht:t.length=g.n*g.n) (hm:∀x∈t,x≤g.n):cP { g with town:=t }:=qH ok ht hm ok.four ok.row ok.clue
theorem L9 {g:ag} (ok:cP g) {k i v:Nat} (hv:v≤g.n) (hk:k < 4):cP { g with clues:=gG g.clues k i v }:=by
 have hkl:k < g.clues.length:=by rw [ok.four];exact hk
 have hg:g.clues.getD k []∈g.clues:=by
  rw [ak,au hkl]
  exact cS _
 refine qH ok ok.town ok.GG (by unfold gG;rw [cO];exact ok.four) (fun l hl=>?_) fun l hl x hx=>?_
 ·rcases gm hl with hl|rfl
  ·exact ok.row l hl
  ·rw [cO];exact ok.row _ hg
 ·rcases gm hl with hl|rfl
  ·exact ok.clue l hl x hx
  ·rcases gm hx with hx|rfl
   ·exact ok.clue _ hg x hx
   ·exact hv
theorem Fi:∀{c:List (List Nat)} {n k i v:Nat},(∀l∈c,l.length=n)→k < c.length→i < n→(c.set k ((c.getD k []).set i v)).flatten=c.flatten.set (k*n+i) v
 | [],_,_,_,_,_,h,_=>by simp at h
 | x::c,n,0,i,v,hc,_,hi=>by
  have hx:x.length=n:=hc x (by simp)
  rw [Nd,bB,bB,kY,cj,List.set_append_left _ _ (by omega)]
  rfl
 | x::c,n,k+1,i,v,hc,hk,hi=>by
  have hx:x.length=n:=hc x (by simp)
  have ih:=Fi (c:=c) (n:=n) (k:=k) (i:=i) (v:=v) (fun l hl=>hc l (by simp [hl])) (by simpa using hk) hi
  rw [Nf,bB,bB,List.set_append_right _ _ (by rw [gE];omega)]
  have e:(k+1)*n+i - x.length=k*n+i:=by rw [gE,iw,hx];omega
  rw [e,←ih]
  rfl
theorem L_ {g:ag} (ok:cP g) {k i v:Nat} (hk:k < 4) (hi:i < g.n):(gG g.clues k i v).flatten=g.clues.flatten.set (k*g.n+i) v :=
 Fi ok.row (by rw [ok.four];exact hk) hi
theorem Df:∀(l:List Nat) (m:Nat),dY m l≤l.length
 | [],_=>aY _
 | x::l,m=>by
  unfold dY
  have h1:=Df l x
  have h2:=Df l m
  rw [az]
  split<;>omega
theorem IE {g:ag} (ok:cP g):cP { g with clues:=cz g }:=by
 refine qH ok ok.town ok.GG (by unfold cz;rw [ah,aQ]) (fun l hl=>?_) fun l hl x hx=>?_
 ·unfold cz at hl
  obtain ⟨k,_,rfl⟩:=bf.mp hl
  rw [ah,aQ]
 ·unfold cz at hl
  obtain ⟨k,_,rfl⟩:=bf.mp hl
  obtain ⟨i,_,rfl⟩:=bf.mp hx
  have:=Df ((a7 g.n k i).map (aA g.town)) 0
  rw [ah] at this
  unfold a7 at this
  rw [ah,aQ] at this
  exact this
theorem Ma {g:ag} (ok:cP g) (p:Nat→Nat) (a b c d:Nat→Nat×Nat):cP ⟨g.n,(aq (g.n*g.n)).map fun i=>aA g.town (p i),[(aq g.n).map fun i=>a8 g.clues (a i).1 (a i).2,(aq g.n).map fun i=>a8 g.clues (b i).1 (b i).2,(aq g.n).map fun i=>a8 g.clues (c i).1 (c i).2,(aq g.n).map fun i=>a8 g.clues (d i).1 (d i).2]⟩:=by
 refine qH ok (by rw [ah,aQ]) (fun x hx=>?_) rfl (fun l hl=>?_) fun l hl x hx=>?_
 ·obtain ⟨i,_,rfl⟩:=bf.mp hx
  exact L8 ok _
 ·simp only [aG,bV,or_false] at hl
  rcases hl with rfl|rfl|rfl|rfl<;>rw [ah,aQ]
 ·simp only [aG,bV,or_false] at hl
  rcases hl with rfl|rfl|rfl|rfl<;>(obtain ⟨i,_,rfl⟩:=bf.mp hx;exact Oj ok _ _)
theorem Mb {g:ag} (ok:cP g):cP ⟨g.n,Aa g.n g.town,fq g.n g.clues⟩ :=
 Ma ok (fun p=>(g.n - 1 - p % g.n)*g.n+p / g.n) (fun i=>(3,g.n - 1 - i)) (fun i=>(0,i)) (fun i=>(1,g.n - 1 - i)) fun i=>(2,i)
theorem G1 {g:ag} (ok:cP g):cP ⟨g.n,vQ g.n g.town,d8 g.n g.clues⟩ :=
 Ma ok (fun p=>p / g.n*g.n+(g.n - 1 - p % g.n)) (fun i=>(0,g.n - 1 - i)) (fun i=>(3,i)) (fun i=>(2,g.n - 1 - i)) fun i=>(1,i)
theorem zk {g:ag} (ok:cP g):cP { g with clues:=Xb.z4 g.n }:=by
 refine qH ok ok.town ok.GG (by unfold Xb.z4;rw [c9]) (fun l hl=>?_) fun l hl x hx=>?_
 ·unfold Xb.z4 at hl
  rw [(wk.mp hl).2,c9]
 ·unfold Xb.z4 at hl
  rw [(wk.mp hl).2] at hx
  rw [(wk.mp hx).2]
  exact c8 _
theorem Ol (n:Nat):(Xb.z4 n).flatten=aH (4*n) 0:=by
 unfold Xb.z4
 rw [List.flatten_replicate_replicate]
theorem JR {g:ag} (ok:cP g) {w:List Nat} (hw:w∈bb g):w≠g.clues.flatten:=fun e=>by
 have hf:g.clues.flatten.length=4*g.n:=by rw [jj ok.row,ok.four]
 obtain ⟨hl,hb⟩:=qA ok w hw
 have hn:=ok.hi
 have WZ:=ok.lo
 have h4:g.n=4:=by
  have h:g.n*g.n=4*g.n:=by rw [←hl,e,hf]
  exact Nat.eq_of_mul_eq_mul_right (by omega) h
 unfold bb oo at hw
 obtain ⟨h1,h2⟩:=cN.mp hw
 obtain ⟨L,hL,eL⟩:=bf.mp h1
 obtain ⟨r1,r2⟩:=xN ok g.n 0 [] (fun q hq=>by simp at hq) L hL
 have Uu:∀(m:Nat) (L:List (List Nat)),L∈jd g.n g.town g.clues (m+1) 0 []→L.getD 0 []∈jH g 3 0:=fun m L hL=>by
  unfold jd at hL
  obtain ⟨r,hr,hL⟩:=gX.mp hL
  obtain ⟨s,rfl⟩:=Xb.y_ m 1 ([]++[r]) L hL
  exact (cN.mp hr).1
 have hq:L.getD 0 []∈jH g 3 0:=Uu 3 L (by rw [h4] at hL;rw [h4];exact hL)
 rw [Im,jw] at hq
 have hq:=(cN.mp hq).1
 rw [h4] at hq
 have XA:∀q∈perms 4,4∈q:=by decide +kernel
 have Ji:=XA _ hq
 obtain ⟨i,hi,ei⟩:=List.getElem_of_mem Ji
 have hL4:L.length=4:=by rw [r2,h4];rfl
 have Xx:(L.getD 0 []).length=g.n:=by
  rw [ak,au (by omega)]
  exact (r1 _ (cS _)).1
 have Rj:i < g.n:=by omega
 have ew:w.getD i 0=4:=by
  have:=(jh (fun q hq=>(r1 q hq).1) (show 0 < L.length by omega) Rj).2
  rw [kY,cj,eL] at this
  rw [this,ak,au hi,ei]
  rfl
 have ec:a8 g.clues 0 i=4:=by
  have:=(jh ok.row (show 0 < g.clues.length by rw [ok.four];decide) Rj).2
  rw [kY,cj,←e,ew] at this
  exact this.symm
 unfold uJ at h2
 have h3:=aZ.mp h2 i (aT.mpr Rj)
 rw [aj,ec] at h3
 have h5:=h3.1
 have es:dC g.n w 0 i=1:=by
  unfold dC a7
  rw [h4]
  show dY 0 (aA w (0*4+i)::_)=1
  have e0:aA w (0*4+i)=4:=by rw [kY,cj];exact ew
  rw [e0]
  unfold dY
  rw [if_pos (by decide),Xc.E9]
  intro x hx
  simp only [aO,x9,aG,bV,or_false] at hx
  have hle:∀p,aA w p≤4:=fun p=>by
   unfold aA
   rw [ak]
   cases h:w[p]? with
   | none=>exact c8 _
   | some y=>rw [←h4];exact (hb y (b7 h)).2
  rcases hx with rfl|rfl|rfl<;>exact hle _
 rw [es] at h5
 exact absurd h5 (by decide)
noncomputable def sh (g:ag):List (Nat×Nat):=(g.clues.flatten.zipIdx.filter fun p=>decide (0 < p.1)).map fun p=>(p.2,p.1)
noncomputable def IF (g:ag):List Nat:=(aq (4*g.n)).filter fun z=>a8 g.clues (z / g.n) (z % g.n) != 0
theorem Dg:∀(l:List Nat),l.zipIdx=(aq l.length).map fun z=>(l.getD z 0,z):=fun l=>by
 apply kT
 intro i
 rw [List.getElem?_zipIdx,b8]
 by_cases h:i < l.length
 ·rw [au h,mW h]
  simp [ak,au h]
 ·rw [b0 (by omega),b0 (by rw [aQ];omega)]
  rfl
theorem IG {g:ag} (ok:cP g):sh g=(IF g).map fun z=>(z,a8 g.clues (z / g.n) (z % g.n)):=by
 have hf:g.clues.flatten.length=4*g.n:=by rw [jj ok.row,ok.four]
 unfold sh IF
 rw [Dg,hf,j9,ba]
 have hg:∀z∈aq (4*g.n),g.clues.flatten.getD z 0=a8 g.clues (z / g.n) (z % g.n):=fun z hz=>by
  obtain ⟨p1,p2,p3⟩:=Xb.s_ ok.lo (aT.mp hz)
  have:=(jh ok.row (show z / g.n < g.clues.length by rw [ok.four];exact p1) p2).2
  rw [p3] at this
  exact this
 have e:(aq (4*g.n)).filter ((fun p:Nat×Nat=>decide (0 < p.1))∘fun z=>(g.clues.flatten.getD z 0,z))=(aq (4*g.n)).filter fun z=>a8 g.clues (z / g.n) (z % g.n) != 0:=by
  apply cU
  intro z hz
  show decide (0 < g.clues.flatten.getD z 0)=_
  rw [hg z hz]
  cases a8 g.clues (z / g.n) (z % g.n)<;>rfl
 rw [e]
 apply bT
 intro z hz
 show (z,g.clues.flatten.getD z 0)=_
 rw [hg z (cN.mp hz).1]
theorem Mc {g:ag} (ok:cP g) (w:List Nat):mK g.n w (sh g)=Xb.iI g.n g.clues w:=by
 unfold mK Xb.iI
 rw [IG ok,j9,ba]
 unfold IF
 rw [f7]
 have:(Prod.fst∘fun z=>(z,a8 g.clues (z / g.n) (z % g.n)))=(id:Nat→Nat):=rfl
 rw [this,Bs]
 apply cU
 intro z _
 rw [FW]
 rfl
noncomputable def nv (g:ag):List (List Nat):=oo g.n g.town (Xb.z4 g.n)
noncomputable def wd (g:ag):List Nat:=(nv g).flatMap fun w=>Xb.lD (mK g.n w (sh g))
theorem JS {g:ag} (ok:cP g):((sh g).filter fun x=>!decide (x.1∈wd g)).map Prod.fst=mX g:=by
 have hr:∀L∈jd g.n g.town (Xb.z4 g.n) g.n 0 [],(∀q∈L,q.length=g.n)∧L.length=g.n:=fun L hL=>by
  obtain ⟨h1,h2⟩:=xN (zk ok) g.n 0 [] (fun q hq=>by simp at hq) L hL
  exact ⟨fun q hq=>(h1 q hq).1,by rw [h2,List.length_nil,cj]⟩
 rw [IG ok,j9,ba]
 have:(Prod.fst∘fun z=>(z,a8 g.clues (z / g.n) (z % g.n)))=(id:Nat→Nat):=rfl
 rw [this,Bs]
 unfold IF mX
 rw [f7]
 apply cU
 intro z hz
 rw [FW]
 show (a8 g.clues (z / g.n) (z % g.n) != 0&&!decide (z∈wd g))=_
 cases hc:(a8 g.clues (z / g.n) (z % g.n) != 0) with
 | false=>rfl
 | true =>
  rw [jK,jK]
  have hs:=Xb.JO ok.lo ok.hi hr ok.four ok.row (aT.mp hz) (bne_iff_ne.mp hc)
  have hm:z∈wd g ↔ ∃w∈oo g.n g.town (Xb.z4 g.n),Xb.lD (Xb.iI g.n g.clues w)=[z]:=by
   unfold wd
   rw [gX]
   constructor
   ·rintro ⟨w,hw,h⟩
    refine ⟨w,hw,?_⟩
    rw [Mc ok] at h
    unfold Xb.lD at h ⊢
    split at h
    ·rename_i hl
     rw [if_pos hl]
     match hq:Xb.iI g.n g.clues w,hl,h with
     | [x],_,h=>rw [b3] at h;rw [h]
    ·simp at h
   ·rintro ⟨w,hw,h⟩
    exact ⟨w,hw,by rw [Mc ok,h];simp⟩
  rw [←hm] at hs
  by_cases h:z∈wd g
  ·rw [decide_eq_true h]
   have:¬(oo g.n g.town (gG g.clues (z / g.n) (z % g.n) 0)).length=(oo g.n g.town g.clues).length:=fun e=>hs.mp e h
   exact (beq_eq_false_iff_ne.mpr this).symm
  ·rw [decide_eq_false h]
   exact (beq_iff_eq.mpr (hs.mpr h)).symm
end Tn
namespace Tn
theorem xT {g:ag} (ok:cP g) {i h:Nat} (hh:h≤g.n):cP { g with town:=g.town.set i h } :=
 uu ok (by rw [cO];exact ok.town) fun x hx=>by
  rcases gm hx with hx|rfl
  ·exact ok.GG x hx
  ·exact hh
end Tn
namespace Tn
open PySem Mi Xa
noncomputable def Ac (c:Kh321.Call):List D→Option D:=kI (fun x:ag=>[tD x]) (fun x=>cP x) (fun x=>dq (told x c))
noncomputable def M3 (c:Nat→Kh321.Call):List D→Option D:=kI (fun x:ag×Nat=>[tD x.1,iN x.2]) (fun x=>cP x.1) (fun x=>dq (told x.1 (c x.2)))
noncomputable def Pl (c:Nat→Nat→Kh321.Call):List D→Option D:=kI (fun x:ag×Nat×Nat=>[tD x.1,iN x.2.1,iN x.2.2]) (fun x=>cP x.1) (fun x=>dq (told x.1 (c x.2.1 x.2.2)))
theorem M4 {c:Kh321.Call} {g:ag} (ok:cP g):Ac c [tD g]=some (dq (told g c)) :=
 b4 (x:=g) ok fun y h hy=>by injection h with h1 h;rw [dQ hy ok h1]
theorem Vt {c:Nat→Kh321.Call} {g:ag} {i:Nat} (ok:cP g):M3 c [tD g,iN i]=some (dq (told g (c i))) :=
 b4 (x:=(g,i)) ok fun y h hy=>by
  obtain ⟨a,b⟩:=y
  injection h with h1 h;injection h with h2 h
  rw [dQ hy ok h1,cx h2]
theorem at2 {c:Nat→Nat→Kh321.Call} {g:ag} {k i:Nat} (ok:cP g):Pl c [tD g,iN k,iN i]=some (dq (told g (c k i))) :=
 b4 (x:=(g,k,i)) ok fun y h hy=>by
  obtain ⟨a,b,d⟩:=y
  injection h with h1 h;injection h with h2 h;injection h with h3 h
  rw [dQ hy ok h1,cx h2,cx h3]
theorem Rk {c:Kh321.Call} {r:List D→Option D} (h:∀g,cP g→r [tD g]=some (dq (told g c))):∀ds d,Ac c ds=some d→r ds=some d:=fun ds d e=>by
 obtain ⟨x,rfl,hp,rfl⟩:=bj e
 exact h x hp
theorem Vu {c:Nat→Kh321.Call} {r:List D→Option D} (h:∀g i,cP g→r [tD g,iN i]=some (dq (told g (c i)))):∀ds d,M3 c ds=some d→r ds=some d:=fun ds d e=>by
 obtain ⟨x,rfl,hp,rfl⟩:=bj e
 exact h x.1 x.2 hp
theorem XB {c:Nat→Nat→Kh321.Call} {r:List D→Option D} (h:∀g k i,cP g→r [tD g,iN k,iN i]=some (dq (told g (c k i)))):∀ds d,Pl c ds=some d→r ds=some d:=fun ds d e=>by
 obtain ⟨x,rfl,hp,rfl⟩:=bj e
 exact h x.1 x.2.1 x.2.2 hp
noncomputable def gZ:List D→Option D:=kI (fun x:ag×List (Nat×Nat)=>[tD x.1,.lst (x.2.map oq)]) (fun x=>cP x.1) (fun x=>iL ((nv x.1).flatMap fun w=>Xb.lD (mK x.1.n w x.2)))
theorem vC {g:ag} {T:List (Nat×Nat)} (ok:cP g):gZ [tD g,.lst (T.map oq)]=some (iL ((nv g).flatMap fun w=>Xb.lD (mK g.n w T))) :=
 b4 (x:=(g,T)) ok fun y h hy=>by
  obtain ⟨a,b⟩:=y
  injection h with h1 h;injection h with h2 h
  injection h2 with h2
  rw [dQ hy ok h1,map_inj (fun _ _=>IB) h2]
noncomputable def mL:Ss:=(.cons (.jL (.op .eq (.un .len (.call "town_ways" dF (.cons (.var 0) .nil))) (.int 0)) (.cons (.ret (.lst (.cons (.gl "NO_WAY" (.int (-33))) .nil)) []) .nil) .nil) (.cons (.asg 1 (.comp (.tp [4,5]) (.enum (.fld (.var 0) "clues")) (.yes (.op .gt (.var 5) (.int 0))) (.tup (.cons (.var 4) (.cons (.var 5) .nil)))) []) (.cons (.asg 2 (.call "needed_places" gZ (.cons (.var 0) (.cons (.var 1) .nil))) []) (.cons (.asg 3 (.comp (.tp [4,5]) (.lst (.var 1)) (.yes (.op .r8 (.var 4) (.var 2))) (.var 4)) []) (.cons (.ret (.op .add (.lst (.cons (.un .len (.var 3)) .nil)) (.var 3)) []) .nil)))))
theorem vD {g:ag} (ok:cP g):bQ 6 mL [tD g]=some (dq (told g .spare)):=by
 have hn:=ok.hi
 have et:told g .spare=match bb g with|[]=>aw (-33)|_=>vP (mX g):=by
  show (match bb g with|[]=>_|_=>_:Option aE×aW).2=_
  cases bb g<;>rfl
 rw [et]
 have ec:bH (.op .eq (.un .len (.call "town_ways" dF (.cons (.var 0) .nil))) (.int 0)) (bA [.fz (tD g),.no,.no,.no,.no,.no])=some (.bl (decide ((bb g).length=0))):=bx (fV (aM (ai (af rfl) ay) (gb ok)) jo) a_ (fT (b:=0))
 cases hA:bb g with
 | nil =>
  rw [hA] at ec
  exact bg (bJ (ec.trans rfl) (aX (cE (ai bZ ay))))
 | cons q l =>
  rw [hA] at ec
  have e1:bH (.comp (.tp [4,5]) (.enum (.fld (.var 0) "clues")) (.yes (.op .gt (.var 5) (.int 0))) (.tup (.cons (.var 4) (.cons (.var 5) .nil)))) (view (freeze [] [.fz (tD g),.no,.no,.no,.no,.no]))=some (.lst ((sh g).map oq)):=by
   refine (eG ((xJ (cq (af rfl) (oG g))).trans (by rw [ui])) (iD (fun p:Nat×Nat=>D.tup [iN p.2,iN p.1]) (fun p=>decide (0 < p.1)) (fun p=>oq (p.2,p.1)) g.clues.flatten.zipIdx fun p hp=>⟨_,rfl,oX (bx (af rfl) a_ (jD (b:=0))),fun _=>ud (ai (af rfl) (ai (af rfl) ay))⟩)).trans ?_
   unfold sh
   rw [ba];rfl
  have e2:bH (.call "needed_places" gZ (.cons (.var 0) (.cons (.var 1) .nil))) (view (freeze [] [.fz (tD g),.fz (.lst ((sh g).map oq)),.no,.no,.no,.no]))=some (iL (wd g)):=aM (ai (af rfl) (ai (af rfl) ay)) (vC ok)
  have e3:bH (.comp (.tp [4,5]) (.lst (.var 1)) (.yes (.op .r8 (.var 4) (.var 2))) (.var 4)) (view (freeze [] [.fz (tD g),.fz (.lst ((sh g).map oq)),.fz (iL (wd g)),.no,.no,.no]))=some (iL (mX g)):=by
   refine (eG (eT (af rfl)) (iD oq (fun x=>!decide (x.1∈wd g)) (fun x=>iN x.1) (sh g) fun x hx=>⟨_,rfl,oX (bx (af rfl) (af rfl) yF),fun _=>af rfl⟩)).trans ?_
   rw [jR,←JS ok]
  have hl:(mX g).length≤999:=by
   unfold mX
   exact aP (gc _ _) (by rw [aQ];omega)
  exact bg ((aI (ec.trans (by rw [decide_eq_false (by simp)]))).trans ((cH e1).trans ((cH e2).trans ((cH e3).trans ((aX (bx (cE (ai (fV (af rfl) ig) ay)) (af rfl) (ni hl))).trans rfl)))))
noncomputable def Vv:List D→Option D:=kI (fun x:ag×Nat×Nat=>[xS x]) (fun x=>cP x.1) (fun x=>dq (tf x))
theorem Md {x y:ag×Nat×Nat} (hx:cP x.1) (hy:cP y.1) (h:xS x=xS y):x=y:=by
 obtain ⟨h1,h2,h3,h4,h5⟩:=C6 h
 have:x.1=y.1:=dQ hx hy (by unfold tD;rw [h1,h2,h3])
 exact Prod.ext this (Prod.ext h4 h5)
theorem Uv {x:ag×Nat×Nat} (ok:cP x.1):Vv [xS x]=some (dq (tf x)) :=
 b4 (x:=x) ok fun y h hy=>by injection h with h1 h;rw [Md hy ok h1]
theorem Uw:∀ds d,Vv ds=some d→bQ 1 j0 ds=some d:=fun ds d e=>by
 obtain ⟨x,rfl,hp,rfl⟩:=bj e
 exact vw x
noncomputable def lE (p:Nat) (xs:List Nat):Kh321.Call:=match p with
 | 1=>.build (xs.getD 0 0) (xs.getD 1 0)|2=>.tear (xs.getD 0 0)|3=>.tell (xs.getD 0 0) (xs.getD 1 0) (xs.getD 2 0)
 | 4=>.at_ (xs.getD 0 0)|5=>.seen (xs.getD 0 0) (xs.getD 1 0)|6=>.clue (xs.getD 0 0) (xs.getD 1 0)|7=>.clash|8=>.done|9=>.count
 | 10=>.nth (xs.getD 0 0)|11=>.sure (xs.getD 0 0)|12=>.could (xs.getD 0 0)|13=>.known|14=>.line (xs.getD 0 0) (xs.getD 1 0)|15=>.hint|16=>.solve
 | 17=>.fill (xs.getD 0 0)|18=>.spare|19=>.views|20=>.clear|21=>.ask|22=>.turn|23=>.mirror|24=>.text|25=>.back|26=>.again|_=>.state
noncomputable def kC:Ss:=(.cons (.jL (.op .eq (.var 1) (.gl "COUNT" (.int 9))) (.cons (.ret (.call "answer_count" (Ac .count) (.cons (.var 0) .nil)) []) .nil) .nil) (.cons (.jL (.op .eq (.var 1) (.gl "NTH" (.int 10))) (.cons (.ret (.call "answer_nth" (M3 .nth) (.cons (.var 0) (.cons (.ix (.var 2) (.int 0)) .nil))) []) .nil) .nil) (.cons (.jL (.op .eq (.var 1) (.gl "SURE" (.int 11))) (.cons (.ret (.call "answer_sure" (M3 .sure) (.cons (.var 0) (.cons (.ix (.var 2) (.int 0)) .nil))) []) .nil) .nil) (.cons (.jL (.op .eq (.var 1) (.gl "COULD" (.int 12))) (.cons (.ret (.call "answer_could" (M3 .could) (.cons (.var 0) (.cons (.ix (.var 2) (.int 0)) .nil))) []) .nil) .nil) (.cons (.jL (.op .eq (.var 1) (.gl "KNOWN" (.int 13))) (.cons (.ret (.call "answer_known" (Ac .known) (.cons (.var 0) .nil)) []) .nil) .nil) (.cons (.ret (.call "answer_spare" (Ac .spare) (.cons (.var 0) .nil)) []) .nil))))))
noncomputable def ib:Ss:=(.cons (.jL (.op .eq (.var 1) (.gl "AT" (.int 4))) (.cons (.ret (.call "answer_at" (M3 .at_) (.cons (.var 0) (.cons (.ix (.var 2) (.int 0)) .nil))) []) .nil) .nil) (.cons (.jL (.op .eq (.var 1) (.gl "SEEN" (.int 5))) (.cons (.ret (.call "answer_seen" (Pl .seen) (.cons (.var 0) (.cons (.ix (.var 2) (.int 0)) (.cons (.ix (.var 2) (.int 1)) .nil)))) []) .nil) .nil) (.cons (.jL (.op .eq (.var 1) (.gl "CLUE" (.int 6))) (.cons (.ret (.call "answer_clue" (Pl .clue) (.cons (.var 0) (.cons (.ix (.var 2) (.int 0)) (.cons (.ix (.var 2) (.int 1)) .nil)))) []) .nil) .nil) (.cons (.jL (.op .eq (.var 1) (.gl "LINE" (.int 14))) (.cons (.ret (.call "answer_line" (Pl .line) (.cons (.var 0) (.cons (.ix (.var 2) (.int 0)) (.cons (.ix (.var 2) (.int 1)) .nil)))) []) .nil) .nil) (.cons (.jL (.op .eq (.var 1) (.gl "CLASH" (.int 7))) (.cons (.ret (.call "answer_clash" (Ac .clash) (.cons (.var 0) .nil)) []) .nil) .nil) (.cons (.jL (.op .eq (.var 1) (.gl "DONE" (.int 8))) (.cons (.ret (.call "answer_done" (Ac .done) (.cons (.var 0) .nil)) []) .nil) .nil) (.cons (.jL (.op .eq (.var 1) (.gl "HINT" (.int 15))) (.cons (.ret (.call "answer_hint" (Ac .hint) (.cons (.var 0) .nil)) []) .nil) .nil) (.cons (.jL (.op .eq (.var 1) (.gl "VIEWS" (.int 19))) (.cons (.ret (.call "answer_views" (Ac .views) (.cons (.var 0) .nil)) []) .nil) .nil) (.cons (.jL (.op .eq (.var 1) (.gl "TEXT" (.int 24))) (.cons (.ret (.call "answer_text" (Ac .text) (.cons (.var 0) .nil)) []) .nil) .nil) (.cons (.ret (.call "answer_state" Vv (.cons (.var 0) .nil)) []) .nil))))))))))
noncomputable def arity:List Nat:=[1,2,1,3,1,2,2,0,0,0,1,1,1,0,2,0,0,1,0,0,0,0,0,0,0,0,0,0]
theorem G2 {xs:List Nat} (h:xs.length=0):xs=[]:=mr h
theorem Me {xs:List Nat} (h:xs.length=1):∃x,xs=[x]:=by
 match xs,h with
 | [x],_=>exact ⟨x,rfl⟩
theorem Rl {xs:List Nat} (h:xs.length=2):∃x y,xs=[x,y]:=by
 match xs,h with
 | [x,y],_=>exact ⟨x,y,rfl⟩
theorem Vw {xs:List Nat} (h:xs.length=3):∃x y z,xs=[x,y,z]:=by
 match xs,h with
 | [x,y,z],_=>exact ⟨x,y,z,rfl⟩
theorem iq {p c:Nat} {x:Str} {s:List Sl} (h:fR (bA s) 1=some (iN p)):bH (.op .eq (.var 1) (.gl x (.int c))) (bA s)=some (.bl (decide (p=c))):=bx (af h) bZ (fT (b:=c))
theorem bK {p c:Nat} (h:p≠c):some (D.bl (decide (p=c)))=some (.bl false):=by rw [decide_eq_false h]
theorem ny {p:Nat}:some (D.bl (decide (p=p)))=some (.bl true):=by rw [decide_eq_true rfl]
theorem Fj {g:ag} (ok:cP g):∀(p:Nat) (xs:List Nat),p∈[9,10,11,12,13,18]→xs.length=arity.getD p 0→bQ 3 kC [tD g,iN p,iL xs]=some (dq (told g (lE p xs))):=fun p xs hp hl=>by
 simp only [aG,bV,or_false] at hp
 rcases hp with rfl|rfl|rfl|rfl|rfl|rfl
 ·obtain rfl:=G2 hl
  exact bg (bJ ((iq rfl).trans ny) (aX (aM (ai (af rfl) ay) (M4 ok))))
 ·obtain ⟨x,rfl⟩:=Me hl
  exact bg ((aI ((iq rfl).trans (bK (by decide)))).trans (bJ ((iq rfl).trans ny) (aX (aM (ai (af rfl) (ai (eA (af rfl) a_ rfl) ay)) (Vt ok)))))
 ·obtain ⟨x,rfl⟩:=Me hl
  exact bg ((aI ((iq rfl).trans (bK (by decide)))).trans ((aI ((iq rfl).trans (bK (by decide)))).trans (bJ ((iq rfl).trans ny) (aX (aM (ai (af rfl) (ai (eA (af rfl) a_ rfl) ay)) (Vt ok))))))
 ·obtain ⟨x,rfl⟩:=Me hl
  exact bg ((aI ((iq rfl).trans (bK (by decide)))).trans ((aI ((iq rfl).trans (bK (by decide)))).trans ((aI ((iq rfl).trans (bK (by decide)))).trans (bJ ((iq rfl).trans ny) (aX (aM (ai (af rfl) (ai (eA (af rfl) a_ rfl) ay)) (Vt ok)))))))
 ·obtain rfl:=G2 hl
  exact bg ((aI ((iq rfl).trans (bK (by decide)))).trans ((aI ((iq rfl).trans (bK (by decide)))).trans ((aI ((iq rfl).trans (bK (by decide)))).trans ((aI ((iq rfl).trans (bK (by decide)))).trans (bJ ((iq rfl).trans ny) (aX (aM (ai (af rfl) ay) (M4 ok))))))))
 ·obtain rfl:=G2 hl
  exact bg ((aI ((iq rfl).trans (bK (by decide)))).trans ((aI ((iq rfl).trans (bK (by decide)))).trans ((aI ((iq rfl).trans (bK (by decide)))).trans ((aI ((iq rfl).trans (bK (by decide)))).trans ((aI ((iq rfl).trans (bK (by decide)))).trans (aX (aM (ai (af rfl) ay) (M4 ok))))))))
theorem Fl {g:ag} (ok:cP g):∀(p:Nat) (xs:List Nat),p∈[4,5,6,14,7,8,15,19,24]→xs.length=arity.getD p 0→bQ 3 ib [tD g,iN p,iL xs]=some (dq (told g (lE p xs))):=fun p xs hp hl=>by
 simp only [aG,bV,or_false] at hp
 rcases hp with rfl|rfl|rfl|rfl|rfl|rfl|rfl|rfl|rfl
 ·obtain ⟨x,rfl⟩:=Me hl
  exact bg (bJ ((iq rfl).trans ny) (aX (aM (ai (af rfl) (ai (eA (af rfl) a_ rfl) ay)) (Vt ok))))
 ·obtain ⟨x,y,rfl⟩:=Rl hl
  exact bg ((aI ((iq rfl).trans (bK (by decide)))).trans (bJ ((iq rfl).trans ny) (aX (aM (ai (af rfl) (ai (eA (af rfl) a_ rfl) (ai (eA (af rfl) a_ rfl) ay))) (at2 ok)))))
 ·obtain ⟨x,y,rfl⟩:=Rl hl
  exact bg ((aI ((iq rfl).trans (bK (by decide)))).trans ((aI ((iq rfl).trans (bK (by decide)))).trans (bJ ((iq rfl).trans ny) (aX (aM (ai (af rfl) (ai (eA (af rfl) a_ rfl) (ai (eA (af rfl) a_ rfl) ay))) (at2 ok))))))
 ·obtain ⟨x,y,rfl⟩:=Rl hl
  exact bg ((aI ((iq rfl).trans (bK (by decide)))).trans ((aI ((iq rfl).trans (bK (by decide)))).trans ((aI ((iq rfl).trans (bK (by decide)))).trans (bJ ((iq rfl).trans ny) (aX (aM (ai (af rfl) (ai (eA (af rfl) a_ rfl) (ai (eA (af rfl) a_ rfl) ay))) (at2 ok)))))))
 ·obtain rfl:=G2 hl
  exact bg ((aI ((iq rfl).trans (bK (by decide)))).trans ((aI ((iq rfl).trans (bK (by decide)))).trans ((aI ((iq rfl).trans (bK (by decide)))).trans ((aI ((iq rfl).trans (bK (by decide)))).trans (bJ ((iq rfl).trans ny) (aX (aM (ai (af rfl) ay) (M4 ok))))))))
 ·obtain rfl:=G2 hl
  exact bg ((aI ((iq rfl).trans (bK (by decide)))).trans ((aI ((iq rfl).trans (bK (by decide)))).trans ((aI ((iq rfl).trans (bK (by decide)))).trans ((aI ((iq rfl).trans (bK (by decide)))).trans ((aI ((iq rfl).trans (bK (by decide)))).trans (bJ ((iq rfl).trans ny) (aX (aM (ai (af rfl) ay) (M4 ok)))))))))
 ·obtain rfl:=G2 hl
  exact bg ((aI ((iq rfl).trans (bK (by decide)))).trans ((aI ((iq rfl).trans (bK (by decide)))).trans ((aI ((iq rfl).trans (bK (by decide)))).trans ((aI ((iq rfl).trans (bK (by decide)))).trans ((aI ((iq rfl).trans (bK (by decide)))).trans ((aI ((iq rfl).trans (bK (by decide)))).trans (bJ ((iq rfl).trans ny) (aX (aM (ai (af rfl) ay) (M4 ok))))))))))
 ·obtain rfl:=G2 hl
  exact bg ((aI ((iq rfl).trans (bK (by decide)))).trans ((aI ((iq rfl).trans (bK (by decide)))).trans ((aI ((iq rfl).trans (bK (by decide)))).trans ((aI ((iq rfl).trans (bK (by decide)))).trans ((aI ((iq rfl).trans (bK (by decide)))).trans ((aI ((iq rfl).trans (bK (by decide)))).trans ((aI ((iq rfl).trans (bK (by decide)))).trans (bJ ((iq rfl).trans ny) (aX (aM (ai (af rfl) ay) (M4 ok)))))))))))
 ·obtain rfl:=G2 hl
  exact bg ((aI ((iq rfl).trans (bK (by decide)))).trans ((aI ((iq rfl).trans (bK (by decide)))).trans ((aI ((iq rfl).trans (bK (by decide)))).trans ((aI ((iq rfl).trans (bK (by decide)))).trans ((aI ((iq rfl).trans (bK (by decide)))).trans ((aI ((iq rfl).trans (bK (by decide)))).trans ((aI ((iq rfl).trans (bK (by decide)))).trans ((aI ((iq rfl).trans (bK (by decide)))).trans (bJ ((iq rfl).trans ny) (aX (aM (ai (af rfl) ay) (M4 ok))))))))))))
theorem B4 {x:ag×Nat×Nat} (ok:cP x.1):bQ 3 ib [xS x,iN 27,iL []]=some (dq (tf x)) :=
 bg ((aI ((iq rfl).trans (bK (by decide)))).trans ((aI ((iq rfl).trans (bK (by decide)))).trans ((aI ((iq rfl).trans (bK (by decide)))).trans ((aI ((iq rfl).trans (bK (by decide)))).trans ((aI ((iq rfl).trans (bK (by decide)))).trans ((aI ((iq rfl).trans (bK (by decide)))).trans ((aI ((iq rfl).trans (bK (by decide)))).trans ((aI ((iq rfl).trans (bK (by decide)))).trans ((aI ((iq rfl).trans (bK (by decide)))).trans (aX (aM (ai (af rfl) ay) (Uv ok))))))))))))
noncomputable def M5 (ps:List Nat):List D→Option D:=kI (fun x:ag×Nat×List Nat=>[tD x.1,iN x.2.1,iL x.2.2]) (fun x=>cP x.1∧x.2.1∈ps∧x.2.2.length=arity.getD x.2.1 0) (fun x=>dq (told x.1 (lE x.2.1 x.2.2)))
theorem Pn {ps:List Nat} {g:ag} {p:Nat} {xs:List Nat} (ok:cP g) (hp:p∈ps) (hl:xs.length=arity.getD p 0):M5 ps [tD g,iN p,iL xs]=some (dq (told g (lE p xs))) :=
 b4 (x:=(g,p,xs)) ⟨ok,hp,hl⟩ fun y h hy=>by
  obtain ⟨a,b,c⟩:=y
  injection h with h1 h;injection h with h2 h;injection h with h3 h
  rw [dQ hy.1 ok h1,cx h2,gg h3]
theorem Mf {ps:List Nat} {r:List D→Option D} (h:∀g,cP g→∀p xs,p∈ps→xs.length=arity.getD p 0→r [tD g,iN p,iL xs]=some (dq (told g (lE p xs)))):∀ds d,M5 ps ds=some d→r ds=some d:=fun ds d e=>by
 obtain ⟨x,rfl,hp,rfl⟩:=bj e
 exact h x.1 hp.1 x.2.1 x.2.2 hp.2.1 hp.2.2
noncomputable def XC:List D→Option D:=kI (fun x:ag×Nat×Nat=>[xS x,iN 27,iL []]) (fun x=>cP x.1) (fun x=>dq (tf x))
theorem Ux {x:ag×Nat×Nat} (ok:cP x.1):XC [xS x,iN 27,iL []]=some (dq (tf x)) :=
 b4 (x:=x) ok fun y h hy=>by injection h with h1 h;rw [Md hy ok h1]
theorem Uy:∀ds d,XC ds=some d→bQ 3 ib ds=some d:=fun ds d e=>by
 obtain ⟨x,rfl,hp,rfl⟩:=bj e
 exact B4 hp
end Tn
namespace Tn
inductive Cl where
 | st (n:Nat) (t:List Nat)
 | op (p:Nat) (xs:List Nat)
noncomputable abbrev zs (l:List Nat):List Int:=l.map fun x:Nat=>(x:Int)
noncomputable def Cl.flat:Cl→List Nat
 | .st n t=>0::n::t.length::t
 | .op p xs=>p::xs
noncomputable def Cl.raw:Cl→List (List Int)
 | .st n t=>[[0,(n:Int)],zs t]
 | .op p xs=>[zs (p::xs)]
noncomputable def Cl.Wf:Cl→Prop
 | .st n t=>n < 2 ^ 32∧t.length≤100∧∀b∈t,b < 256
 | .op p xs=>1≤p∧p≤27∧xs.length+1=rK.getD p 0∧∀x∈xs,x < 2 ^ 32
noncomputable def Cl.call (k:Cl):Kh321.Call:=Kh321Neutral.callOf1 k.raw
noncomputable def Wq (p:Int) (n:Nat):Prop:=n < 4∧(n=0→PyKh321.whole [[p]]=[[p]])∧(n=1→∀x,PyKh321.whole [[p,x]]=[[p,x]])∧(n=2→∀x y,PyKh321.whole [[p,x,y]]=[[p,x,y]])∧(n=3→∀x y z,PyKh321.whole [[p,x,y,z]]=[[p,x,y,z]])
noncomputable def Wt (p:Int) (b:Nat×Nat):Prop:=(p=0∧b=(1,1))∨(b.2=0∧Wq p b.1)
theorem wh_if {p q:Int} {a b:Nat×Nat} {X:Option (Nat×Nat)} (h:(if p=q then some a else X)=some b) (h1:Wt q a) (h2:X=some b→Wt p b):Wt p b:=by
 by_cases hc:p=q
 ·rw [if_pos hc] at h;rw [hc,←Option.some.inj h];exact h1
 ·rw [if_neg hc] at h;exact h2 h
theorem wh_n0 {p:Int} (h:PyKh321.whole [[p]]=[[p]]):Wt p (0,0):=.inr ⟨rfl,by decide,fun _=>h,nofun,nofun,nofun⟩
theorem wh_n1 {p:Int} (h:∀x,PyKh321.whole [[p,x]]=[[p,x]]):Wt p (1,0):=.inr ⟨rfl,by decide,nofun,fun _=>h,nofun,nofun⟩
theorem wh_n2 {p:Int} (h:∀x y,PyKh321.whole [[p,x,y]]=[[p,x,y]]):Wt p (2,0):=.inr ⟨rfl,by decide,nofun,nofun,fun _=>h,nofun⟩
theorem wh_n3 {p:Int} (h:∀x y z,PyKh321.whole [[p,x,y,z]]=[[p,x,y,z]]):Wt p (3,0):=.inr ⟨rfl,by decide,nofun,nofun,nofun,fun _=>h⟩
theorem wh_sh {p:Int} {b:Nat×Nat} (h:PyKh321.shape p=some b):Wt p b:=by
 unfold PyKh321.shape at h
 refine wh_if h (.inl ⟨rfl,rfl⟩) ?_
 clear h
 iterate 27 (intro h;refine wh_if h (by first|exact wh_n0 rfl|exact wh_n1 fun _=>rfl|exact wh_n2 fun _ _=>rfl|exact wh_n3 fun _ _ _=>rfl) ?_;clear h)
 intro h
 cases h
theorem wh_op {p:Int} {r t:List Int} {n:Nat} {c:List (List Int)} (h:some ([p::r.take n],r.drop n)=some (c,t)) (hr:¬r.length < n) (w:Wq p n):PyKh321.whole c=c:=by
 obtain ⟨h4,h0,h1,h2,h3⟩:=w
 cases h
 match n,r,hr,h0,h1,h2,h3,h4 with
 |0,_,_,h0,_,_,_,_=>exact h0 rfl
 |1,x::_,_,_,h1,_,_,_=>exact h1 rfl x
 |2,x::y::_,_,_,_,h2,_,_=>exact h2 rfl x y
 |3,x::y::z::_,_,_,_,_,h3,_=>exact h3 rfl x y z
 |1,[],hr,_,_,_,_,_=>exact absurd (by decide) hr
 |2,[],hr,_,_,_,_,_=>exact absurd (by decide) hr
 |2,[_],hr,_,_,_,_,_=>exact absurd (by simp) hr
 |3,[],hr,_,_,_,_,_=>exact absurd (by decide) hr
 |3,[_],hr,_,_,_,_,_=>exact absurd (by simp) hr
 |3,[_,_],hr,_,_,_,_,_=>exact absurd (by simp) hr
theorem wh_call {l t:List Int} {c:List (List Int)} (h:PyFlat.call PyKh321.shape l=some (c,t)):PyKh321.whole c=c:=by
 cases l with
 | nil=>cases h
 | cons p r =>
  have h:(match PyKh321.shape p with|none=>none|some (n,k)=>if r.length < n then none else match PyFlat.rows k (r.drop n) with|none=>none|some (xs,t)=>some ((p::r.take n)::xs,t))=some (c,t):=h
  cases hs:PyKh321.shape p with
  | none=>rw [hs] at h;cases h
  | some nk =>
   obtain ⟨n,k⟩:=nk
   rw [hs] at h
   simp only [] at h
   by_cases hr:r.length < n
   ·rw [if_pos hr] at h;cases h
   ·rw [if_neg hr] at h
    rcases wh_sh hs with ⟨rfl,e2⟩|⟨e2,w⟩
    ·cases e2
     cases r with
     | nil=>exact absurd (by decide) hr
     | cons x r =>
      cases hq:PyFlat.rows 1 (List.drop 1 (x::r)) with
      | none=>rw [hq] at h;cases h
      | some y =>
       obtain ⟨xs,u⟩:=y
       rw [hq] at h
       cases h
       have hq:(match PyFlat.row r with|none=>none|some (x,s)=>some ([x],s))=some (xs,t):=hq
       cases hw:PyFlat.row r with
       | none=>rw [hw] at hq;cases hq
       | some z=>rw [hw] at hq;cases hq;rfl
    ·cases e2
     exact wh_op h hr w
theorem wh_calls:∀(f:Nat) (l:List Int) (cs:List (List (List Int))),PyFlat.calls PyKh321.shape f l=some cs→cs.map PyKh321.whole=cs
 | _,[],cs,h=>by
  unfold PyFlat.calls at h
  cases h
  rfl
 | 0,p::r,cs,h=>by cases h
 | f+1,p::r,cs,h=>by
  have h:(match PyFlat.call PyKh321.shape (p::r) with|none=>none|some (c,t)=>match PyFlat.calls PyKh321.shape f t with|none=>none|some cs=>some (c::cs))=some cs:=h
  cases hc:PyFlat.call PyKh321.shape (p::r) with
  | none=>rw [hc] at h;cases h
  | some ct =>
   obtain ⟨c,t⟩:=ct
   rw [hc] at h
   simp only [] at h
   cases hs:PyFlat.calls PyKh321.shape f t with
   | none=>rw [hs] at h;cases h
   | some ds =>
    rw [hs] at h
    cases h
    rw [List.map_cons,wh_call hc,wh_calls f t ds hs]
theorem Mh:∀(l:List Int),(∀z∈l,0≤z)→∃m:List Nat,l=zs m∧m=l.map Int.toNat
 | [],_=>⟨[],rfl,rfl⟩
 | z::l,h=>by
  obtain ⟨m,e1,e2⟩:=Mh l fun y hy=>h y (by simp [hy])
  refine ⟨z.toNat::m,?_,by rw [aO,e2]⟩
  have:=h z (by simp)
  show z::l=((z.toNat:Nat):Int)::zs m
  rw [←e1,nX this]
theorem qI {z:Int} (h:Cf z 32=true):0≤z∧z < 2 ^ 32:=by
 unfold Cf at h
 rw [aj,decide_eq_true_eq,decide_eq_true_eq] at h
 exact h
theorem Mj {h:List Int} (a:gj [h]=true):∃k:Cl,k.Wf∧k.raw=[h]∧zs k.flat=h:=by
 unfold gj at a
 rw [aj,aj,aZ] at a
 obtain ⟨a1,a2,a3⟩:=a
 unfold DO at a1
 rw [aj,decide_eq_true_eq,decide_eq_true_eq] at a1
 rw [beq_iff_eq] at a2
 cases h with
 | nil=>simp at a1
 | cons p xs =>
  have hp:(1:Int)≤p∧p≤27:=a1
  obtain ⟨m,e1,e2⟩:=Mh xs fun z hz=>(qI (a3 z (by simp [hz]))).1
  have ep:((p.toNat:Nat):Int)=p:=nX (by omega)
  refine ⟨.op p.toNat m,⟨by omega,by omega,?_,fun x hx=>?_⟩,?_,?_⟩
  ·have:(p::xs).length=rK.getD p.toNat 0:=a2
   rw [←this,e1,az,ah]
  ·rw [e2,bf] at hx
   obtain ⟨z,hz,rfl⟩:=hx
   have:=qI (a3 z (by simp [hz]))
   omega
  ·show [((p.toNat:Nat):Int)::zs m]=_
   rw [ep,←e1]
  ·show ((p.toNat:Nat):Int)::zs m=_
   rw [ep,←e1]
theorem Ml {x y:Int} {t:List Int} {n:Int} (a:gj [[x,y],t]=true) (hn:n.toNat=t.length) (h0:0≤n):∃k:Cl,k.Wf∧k.raw=[[x,y],t]∧zs k.flat=x::y::n::t:=by
 unfold gj at a
 rw [aj,aj,aj,aZ] at a
 obtain ⟨a1,a2,a3,a4⟩:=a
 have hx:x=0:=beq_iff_eq.mp a1
 have hy:=qI (a3 y (by simp))
 unfold Kh321Neutral.isBytes at a4
 rw [aj,decide_eq_true_eq,aZ] at a4
 have hb:∀z∈t,0≤z∧z≤255:=fun z hz=>by
  have:=a4.2 z hz
  unfold DO at this
  rw [aj,decide_eq_true_eq,decide_eq_true_eq] at this
  exact this
 obtain ⟨m,e1,e2⟩:=Mh t fun z hz=>(hb z hz).1
 have ey:((y.toNat:Nat):Int)=y:=nX hy.1
 have el:m.length=t.length:=by rw [e2,ah]
 have en:((m.length:Nat):Int)=n:=by rw [el,←hn];exact nX h0
 refine ⟨.st y.toNat m,⟨by omega,by rw [el];exact a4.1,fun b RV=>?_⟩,?_,?_⟩
 ·rw [e2,bf] at RV
  obtain ⟨z,hz,rfl⟩:=RV
  have:=hb z hz
  omega
 ·show [[(0:Int),((y.toNat:Nat):Int)],zs m]=_
  rw [ey,←e1,hx]
 ·show (0:Int)::((y.toNat:Nat):Int)::((m.length:Nat):Int)::zs m=_
  rw [ey,en,←e1,hx]
theorem Uz {c:Prop} [Decidable c] {a n k:Nat} {X:Option (Nat×Nat)} (h:(if c then some (a,0) else X)=some (n,k)) (hX:X=some (n,k)→k=0):k=0:=by
 by_cases hc:c
 ·rw [if_pos hc] at h
  injection h with h
  injection h with h1 h2
  exact h2.symm
 ·rw [if_neg hc] at h
  exact hX h
theorem JT {p:Int} {n k:Nat} (h:PyKh321.shape p=some (n,k)):(k=1∧n=1∧p=0)∨k=0:=by
 by_cases h0:p=0
 ·subst h0
  have:some ((1:Nat),(1:Nat))=some (n,k):=h
  injection this with this
  injection this with h1 h2
  exact .inl ⟨h2.symm,h1.symm,rfl⟩
 ·right
  unfold PyKh321.shape at h
  rw [if_neg h0] at h
  iterate 27 refine Uz h fun h=>?_
  cases h
theorem Mm {l t:List Int} {c:List (List Int)} (h:PyFlat.call PyKh321.shape l=some (c,t)) (a:gj c=true):∃k:Cl,k.Wf∧k.raw=c∧l=zs k.flat++t:=by
 cases l with
 | nil=>cases h
 | cons p r =>
  have h:(match PyKh321.shape p with|none=>none|some (n,k)=>if r.length < n then none else match PyFlat.rows k (r.drop n) with|none=>none|some (xs,t)=>some ((p::r.take n)::xs,t))=some (c,t):=h
  cases hs:PyKh321.shape p with
  | none=>rw [hs] at h;cases h
  | some nk =>
   obtain ⟨n,k⟩:=nk
   rw [hs] at h
   simp only [] at h
   by_cases hr:r.length < n
   ·rw [if_pos hr] at h;cases h
   ·rw [if_neg hr] at h
    rcases JT hs with ⟨rfl,rfl,rfl⟩|rfl
    ·cases r with
     | nil=>simp at hr
     | cons y r =>
      have e:PyFlat.rows 1 ((y::r).drop 1)=match PyFlat.row r with|none=>none|some (x,s)=>some ([x],s):=by
       show (match PyFlat.row r with|none=>none|some (x,s)=>match PyFlat.rows 0 s with|none=>none|some (xs,t)=>some (x::xs,t))=_
       cases PyFlat.row r<;>rfl
      rw [e] at h
      cases r with
      | nil=>cases h
      | cons m r =>
       by_cases hm:0≤m∧m.toNat≤r.length
       ·have e2:PyFlat.row (m::r)=some (r.take m.toNat,r.drop m.toNat):=if_pos hm
        rw [e2] at h
        injection h with h
        injection h with h1 h2
        have h1:c=[[0,y],r.take m.toNat]:=h1.symm
        subst h1 h2
        obtain ⟨k,w,e3,e4⟩:=Ml (n:=m) a (by rw [c0];omega) hm.1
        refine ⟨k,w,e3,?_⟩
        rw [e4]
        show 0::y::m::r=0::y::m::(r.take m.toNat++r.drop m.toNat)
        rw [J4]
       ·have e2:PyFlat.row (m::r)=none:=if_neg hm
        rw [e2] at h
        cases h
    ·have e:PyFlat.rows 0 (r.drop n)=some ([],r.drop n):=rfl
     rw [e] at h
     injection h with h
     injection h with h1 h2
     have h1:c=[p::r.take n]:=h1.symm
     subst h1 h2
     obtain ⟨k,w,e3,e4⟩:=Mj a
     refine ⟨k,w,e3,?_⟩
     rw [e4]
     show p::r=p::(r.take n++r.drop n)
     rw [J4]
theorem B5:∀(f:Nat) (l:List Int) (cs:List (List (List Int))),PyFlat.calls PyKh321.shape f l=some cs→(∀c∈cs,gj c=true)→∃ks:List Cl,(∀k∈ks,k.Wf)∧cs=ks.map Cl.raw∧l=zs (ks.flatMap Cl.flat)
 | _,[],cs,h,_=>by
  have:cs=[]:=by
   unfold PyFlat.calls at h
   exact (bC.inj h).symm
  subst this
  exact ⟨[],fun k hk=>by simp at hk,rfl,rfl⟩
 | 0,p::r,cs,h,_=>by cases h
 | f+1,p::r,cs,h,a=>by
  have h:(match PyFlat.call PyKh321.shape (p::r) with|none=>none|some (c,t)=>match PyFlat.calls PyKh321.shape f t with|none=>none|some cs=>some (c::cs))=some cs:=h
  cases hc:PyFlat.call PyKh321.shape (p::r) with
  | none=>rw [hc] at h;cases h
  | some ct =>
   obtain ⟨c,t⟩:=ct
   rw [hc] at h
   simp only [] at h
   cases hs:PyFlat.calls PyKh321.shape f t with
   | none=>rw [hs] at h;cases h
   | some ds =>
    rw [hs] at h
    injection h with h
    subst h
    obtain ⟨k,w,e1,e2⟩:=Mm hc (a c (by simp))
    obtain ⟨ks,w2,e3,e4⟩:=B5 f t ds hs fun d hd=>a d (by simp [hd])
    refine ⟨k::ks,?_,by rw [aO,e1,e3],?_⟩
    ·intro j hj
     rcases aG.mp hj with rfl|hj
     ·exact w
     ·exact w2 j hj
    ·rw [e2,e4,b_]
     show _=(k.flat++ks.flatMap Cl.flat).map _
     rw [bq]
noncomputable def vE (a:aW):List Int:=a.ret::a.out.map Int.ofNat
noncomputable def kN:Option aE→List Cl→List Int
 | _,[]=>[]
 | s,k::ks=>((vE (a6 s k.call).2).length:Int)::(vE (a6 s k.call).2++kN (a6 s k.call).1 ks)
theorem B6:∀(ks:List Cl) (s:Option aE),PyFlat.told (PyFlat.played FR s (ks.map Cl.raw))=kN s ks
 | [],_=>rfl
 | k::ks,s=>by
  rw [aO,PyFlat.played]
  unfold PyFlat.told
  rw [b_]
  have ih:=B6 ks (a6 s k.call).1
  unfold PyFlat.told at ih
  show (_::vE (a6 s k.call).2)++(PyFlat.played FR (a6 s k.call).1 (ks.map Cl.raw)).flatMap _=_
  rw [ih]
  rfl
theorem Rm {l:List Int} (h:PyKh321.answers_asked l=true):∃ks:List Cl,(∀k∈ks,k.Wf)∧ks.length≤200∧l=zs (ks.flatMap Cl.flat)∧PyKh321.answers l=kN none ks∧(PyKh321.answers l).length≤10000000:=by
 unfold PyKh321.answers_asked at h
 cases hc:PyFlat.calls PyKh321.shape l.length l with
 | none=>rw [hc] at h;cases h
 | some raw =>
  rw [hc] at h
  simp only [aj] at h
  obtain ⟨⟨⟨⟨_,h2⟩,_⟩,h4⟩,h5⟩:=h
  have ew:raw.map PyKh321.whole=raw:=wh_calls _ _ _ hc
  rw [ew] at h4
  unfold Kh321Neutral.asked at h4
  rw [aj,aZ] at h4
  obtain ⟨ks,w,e1,e2⟩:=B5 l.length l raw hc h4.2
  refine ⟨ks,w,?_,e2,?_,by unfold PyFlat.short at h5;rw [decide_eq_true_eq] at h5;exact h5⟩
  ·unfold PyFlat.atMost at h2
   rw [decide_eq_true_eq,e1,ah] at h2
   exact h2
  ·unfold PyKh321.answers PyKh321.calls
   rw [hc]
   simp only []
   rw [ew,e1]
   exact B6 ks none
end Tn
namespace Mi
open PySem PySem.Spec PyProof.Rows L2
section
variable {K:ab} {σ:L2.St} {H:Hp} {ρ:eM}
theorem g0 {ev:eM→Option D} {d:D} {Q:VK} (sl:Slots K H σ ρ) (e:ev ρ=some d) (q:∀v H',bW H H'→Den K H' d v→Q v H'):tM K ev σ H Q :=
 ⟨H,ρ,d,same_refl H,sl,e,fun v F' H' ex dn=>q v H' ex.hh (cT ex.fh _ _ dn)⟩
theorem jI {ev:eM→Option (List D)} {l:List D} {Q:VK} (sl:Slots K H σ ρ) (e:ev ρ=some l) (q:∀p vs H',bW H H'→H p=none→H' p=some (.lst vs)→l.length≤sizeLine→cG K H' l vs→Q (.ref p) H'):J9 K ev σ H Q :=
 ⟨H,ρ,l,same_refl H,sl,e,fun p vs F' H' ex hp fp hv hz dl=>q p vs H' ex.hh hp hv hz (cC ex.fh _ _ dl)⟩
theorem gJ {ev:eM→Option D} {b:Bool} {Q:Bool→Hp→Prop} (sl:Slots K H σ ρ) (e:ev ρ=some (.bl b)) (q:∀H',bW H H'→Q b H'):tV K (fun ρ=>(ev ρ).bind fU) σ H Q :=
 ⟨H,ρ,b,same_refl H,sl,BJ e rfl,fun F' H' ex=>q H' ex.hh⟩
theorem aK:Slots K H [] []:=⟨rfl,fun i d e=>by simp [fR] at e⟩
theorem aB {v:V} {d:D} (h:Den K H d v) (s:Slots K H σ ρ):Slots K H (some v::σ) (some d::ρ):=by
 refine ⟨by simp [s.len],fun i x e=>?_⟩
 cases i with
 | zero =>
  have:x=d:=by simp [fR] at e;exact e.symm
  subst this
  exact ⟨v,rfl,h⟩
 | succ i=>exact s.den i x e
theorem ao {o:Option V} (s:Slots K H σ ρ):Slots K H (o::σ) (none::ρ):=by
 refine ⟨by simp [s.len],fun i x e=>?_⟩
 cases i with
 | zero=>simp [fR] at e
 | succ i=>exact s.den i x e
theorem zl {C A dx:Addr} {gs:List (Str×V)} {ns:List Str} {ds:List D} {vs:List V} (h:H A=some (.ins C dx gs)) (c:MU K C) (f:MZ K C gs ns vs) (d:cG K H ds vs):Den K H (.obj ns ds) (.ref A):=by
 unfold Den
 exact ⟨A,C,dx,gs,vs,rfl,h,c,f,d⟩
theorem uv {C:Addr} {gs:List (Str×V)}:MZ K C gs [] []:=by unfold MZ;rfl
theorem g8 {C:Addr} {gs:List (Str×V)} {n:Str} {ns:List Str} {v:V} {vs:List V} (a:jv K C n) (l:gs.lookup n=some v) (r:MZ K C gs ns vs):MZ K C gs (n::ns) (v::vs):=by
 unfold MZ;exact ⟨v,vs,rfl,a,l,r⟩
end
end Mi
namespace Tn
open PySem PySem.Spec PyProof.Rows L2 Mi
noncomputable def vL (l:List Nat):List V:=l.map fun x:Nat=>V.int x
theorem mM {K:ab} {H:Hp}:∀l:List Nat,cG K H (l.map iN) (vL l)
 | []=>bX
 | x::l=>bD (bR _) (mM l)
theorem oa {K:ab} {H:Hp} {a:Addr} {l:List Nat} (h:H a=some (.lst (vL l))) (hz:l.length≤1000):Den K H (iL l) (.ref a) :=
 gA (by rw [ah];exact aP hz (by decide)) h (mM l)
theorem qJ {K:ab} {H:Hp}:∀{l:List Nat} {vs:List V},cG K H (l.map iN) vs→vs=vL l
 | [],vs,h=>bO h
 | x::l,vs,h=>by
  obtain ⟨v,r,rfl,h1,h2⟩:=bM h
  rw [bF h1,qJ h2];rfl
theorem iK {K:ab} {H:Hp} {l:List Nat} {v:V} (h:Den K H (iL l) v):∃p,v=.ref p∧H p=some (.lst (vL l)):=by
 obtain ⟨_,p,vs,rfl,h1,h2⟩:=dd h
 rw [qJ h2] at h1
 exact ⟨p,rfl,h1⟩
noncomputable def mD (g:ag):D:=.tup [iL g.town,iL g.clues.flatten]
structure Own where
 c:Addr
 k:Addr
 e:Addr
 l:Addr
structure Own.Ap (w:Own):Prop where
 ck:w.c≠w.k
 ce:w.c≠w.e
 cl:w.c≠w.l
 ke:w.k≠w.e
 kl:w.k≠w.l
 el:w.e≠w.l
noncomputable def Own.has (w:Own) (A b:Addr):Prop:=b=A∨b=w.c∨b=w.k∨b=w.e∨b=w.l
structure TS (K:ab) (C:Addr) (F H:Hp) (A:Addr) (w:Own) (a:aE):Prop where
 ex:∃dx gs,H A=some (.ins C dx gs)∧gs.lookup ("n" : Str)=some (.int a.now.n)∧gs.lookup ("cells" : Str)=some (.ref w.c)∧gs.lookup ("clues" : Str)=some (.ref w.k)∧gs.lookup ("earlier" : Str)=some (.ref w.e)∧gs.lookup ("later" : Str)=some (.ref w.l)∧gs.length≤20
 hc:H w.c=some (.lst (vL a.now.town))
 hk:H w.k=some (.lst (vL a.now.clues.flatten))
 he:∃vs,H w.e=some (.lst vs)∧cG K F (a.undo.reverse.map mD) vs
 hl:∃vs,H w.l=some (.lst vs)∧cG K F (a.redo.reverse.map mD) vs
 fh:bW F H
 nf:∀b,w.has A b→F b=none
 ap:w.Ap
structure pA (K:ab) (C:Addr):Prop where
 cl:MU K C
 n:jv K C "n"
 cells:jv K C "cells"
 clues:jv K C "clues"
 kO:jv K C "earlier"
 later:jv K C "later"
structure jk (A:Addr) (F H:Hp) (O:Addr→Prop) (F' H':Hp) (w':Own):Prop where
 keep:∀b o,H b=some o→¬O b→H' b=some o
 Ad:∀b,H' b=none→H b=none
 ff:bW F F'
 nw:∀b,F b=none→H b≠none→F' b=none
 ow:∀b,w'.has A b→O b∨H b=none
noncomputable abbrev kD (A:Addr) (F H:Hp) (w:Own) (F' H':Hp) (w':Own):Prop:=jk A F H (w.has A) F' H' w'
section
variable {A:Addr} {F H F1 H1 F2 H2:Hp} {w w1 w2:Own} {O:Addr→Prop}
theorem kD.refl:kD A F H w F H w:=⟨fun _ _ h _=>h,fun _ h=>h,same_refl F,fun _ h _=>h,fun _ h=>.inl h⟩
theorem jk.same (s:jk A F H O F1 H1 w1) (e:bW H1 H2):jk A F H O F1 H2 w1 :=
 ⟨fun b o h n=>e _ _ (s.keep b o h n),fun b h=>s.Ad b (same_none e h),s.ff,s.nw,s.ow⟩
theorem jk.ext (s:jk A F H O F1 H1 w1) (e:Ext F1 H1 F2 H2):jk A F H O F2 H2 w1 :=
 ⟨fun b o h n=>e.hh _ _ (s.keep b o h n),fun b h=>s.Ad b (same_none e.hh h),s.ff.trans e.ff,fun b h1 h2=>e.nw b (s.nw b h1 h2) fun h3=>h2 (s.Ad b h3),s.ow⟩
theorem jk.put (s:jk A F H O F1 H1 w1) {b:Addr} (hb:w1.has A b) (o:HO):jk A F H O F1 (upd H1 b o) w1 :=
 ⟨fun b' o' h n=>by
  have k6:b'≠b:=fun e=>by
   subst e
   rcases s.ow b' hb with q|q
   ·exact n q
   ·rw [q] at h;cases h
  rw [aN k6];exact s.keep b' o' h n,
 fun b' h=>by
  by_cases e:b'=b
  ·subst e;rw [aL] at h;cases h
  ·rw [aN e] at h;exact s.Ad b' h,s.ff,s.nw,s.ow⟩
theorem jk.own (s:jk A F H O F1 H1 w1) (h:∀b,w2.has A b→O b∨H b=none):jk A F H O F1 H1 w2:=⟨s.keep,s.Ad,s.ff,s.nw,h⟩
theorem jk.fc (s:jk A F H O F1 H1 w1) {p:Addr} (hp:O p∨H p=none) (o:HO):jk A F H O F1 (upd H1 A o) { w1 with c:=p }:=(s.put (.inl rfl) o).own fun b hb=>by
 rcases hb with q|q|q|q|q
 ·exact s.ow b (.inl q)
 ·exact q▸hp
 ·exact s.ow b (.inr (.inr (.inl q)))
 ·exact s.ow b (.inr (.inr (.inr (.inl q))))
 ·exact s.ow b (.inr (.inr (.inr (.inr q))))
theorem jk.fk (s:jk A F H O F1 H1 w1) {p:Addr} (hp:O p∨H p=none) (o:HO):jk A F H O F1 (upd H1 A o) { w1 with k:=p }:=(s.put (.inl rfl) o).own fun b hb=>by
 rcases hb with q|q|q|q|q
 ·exact s.ow b (.inl q)
 ·exact s.ow b (.inr (.inl q))
 ·exact q▸hp
 ·exact s.ow b (.inr (.inr (.inr (.inl q))))
 ·exact s.ow b (.inr (.inr (.inr (.inr q))))
theorem jk.fe (s:jk A F H O F1 H1 w1) {p:Addr} (hp:O p∨H p=none) (o:HO):jk A F H O F1 (upd H1 A o) { w1 with e:=p }:=(s.put (.inl rfl) o).own fun b hb=>by
 rcases hb with q|q|q|q|q
 ·exact s.ow b (.inl q)
 ·exact s.ow b (.inr (.inl q))
 ·exact s.ow b (.inr (.inr (.inl q)))
 ·exact q▸hp
 ·exact s.ow b (.inr (.inr (.inr (.inr q))))
theorem jk.fl (s:jk A F H O F1 H1 w1) {p:Addr} (hp:O p∨H p=none) (o:HO):jk A F H O F1 (upd H1 A o) { w1 with l:=p }:=(s.put (.inl rfl) o).own fun b hb=>by
 rcases hb with q|q|q|q|q
 ·exact s.ow b (.inl q)
 ·exact s.ow b (.inr (.inl q))
 ·exact s.ow b (.inr (.inr (.inl q)))
 ·exact s.ow b (.inr (.inr (.inr (.inl q))))
 ·exact q▸hp
theorem jk.trans (s:jk A F H O F1 H1 w1) (t:kD A F1 H1 w1 F2 H2 w2):jk A F H O F2 H2 w2 :=
 ⟨fun b o h n=>t.keep b o (s.keep b o h n) fun q=>(s.ow b q).elim n fun q=>(by rw [q] at h;cases h),
 fun b h=>s.Ad b (t.Ad b h),s.ff.trans t.ff,fun b h1 h2=>t.nw b (s.nw b h1 h2) fun h3=>h2 (s.Ad b h3),fun b hb=>by
  rcases t.ow b hb with q|q
  ·exact s.ow b q
  ·exact .inr (s.Ad b q)⟩
end
theorem zm {f:Str} {v:V}:∀{gs:List (Str×V)} {u:V},gs.lookup f=some u→(cW f v gs).length=gs.length
 | [],u,h=>by simp at h
 | (k,x)::r,u,h=>by
  rw [show cW f v ((k,x)::r)=(if k=f then (k,v)::r else (k,x)::cW f v r) from rfl]
  by_cases hk:k=f
  ·rw [if_pos hk];rfl
  ·rw [if_neg hk,az,az]
   rw [cQ,beq_false_of_ne (Ne.symm hk)] at h
   rw [zm h]
section
variable {K:ab} {C A:Addr} {F H F' H':Hp} {w:Own} {a:aE}
theorem TS.same (t:TS K C F H A w a) (s:bW H H'):TS K C F H' A w a:=by
 obtain ⟨dx,gs,h1,h2⟩:=t.ex
 obtain ⟨vs,e1,e2⟩:=t.he
 obtain ⟨us,l1,l2⟩:=t.hl
 exact ⟨⟨dx,gs,s _ _ h1,h2⟩,s _ _ t.hc,s _ _ t.hk,⟨vs,s _ _ e1,e2⟩,⟨us,s _ _ l1,l2⟩,t.fh.trans s,t.nf,t.ap⟩
theorem TS.has (t:TS K C F H A w a) {b:Addr} (h:w.has A b):H b≠none:=by
 obtain ⟨dx,gs,h1,_⟩:=t.ex
 obtain ⟨vs,e1,_⟩:=t.he
 obtain ⟨us,l1,_⟩:=t.hl
 rcases h with rfl|rfl|rfl|rfl|rfl
 ·rw [h1];exact fun z=>nomatch z
 ·rw [t.hc];exact fun z=>nomatch z
 ·rw [t.hk];exact fun z=>nomatch z
 ·rw [e1];exact fun z=>nomatch z
 ·rw [l1];exact fun z=>nomatch z
theorem TS.ext (t:TS K C F H A w a) (e:Ext F H F' H'):TS K C F' H' A w a:=by
 have t1:=t.same e.hh
 obtain ⟨vs,e1,e2⟩:=t1.he
 obtain ⟨us,l1,l2⟩:=t1.hl
 exact ⟨t1.ex,t1.hc,t1.hk,⟨vs,e1,cC e.ff _ _ e2⟩,⟨us,l1,cC e.ff _ _ l2⟩,e.fh,fun b hb=>e.nw b (t.nf b hb) (t.has hb),t.ap⟩
theorem TS.off (t:TS K C F H A w a) {b:Addr} (hb:¬w.has A b) (hf:F b=none) (o:HO):TS K C F (upd H b o) A w a:=by
 have ne:∀x,w.has A x→upd H b o x=H x:=fun x hx=>aN fun e=>hb (e▸hx)
 obtain ⟨dx,gs,h1,h2⟩:=t.ex
 obtain ⟨vs,e1,e2⟩:=t.he
 obtain ⟨us,l1,l2⟩:=t.hl
 exact ⟨⟨dx,gs,by rw [ne _ (.inl rfl)];exact h1,h2⟩,by rw [ne _ (.inr (.inl rfl))];exact t.hc,by rw [ne _ (.inr (.inr (.inl rfl)))];exact t.hk,
  ⟨vs,by rw [ne _ (.inr (.inr (.inr (.inl rfl))))];exact e1,e2⟩,⟨us,by rw [ne _ (.inr (.inr (.inr (.inr rfl))))];exact l1,l2⟩,fun x u e=>by
   rw [aN fun z=>by subst z;rw [hf] at e;cases e]
   exact t.fh x u e,t.nf,t.ap⟩
theorem TS.nA (t:TS K C F H A w a):A≠w.c∧A≠w.k∧A≠w.e∧A≠w.l:=by
 obtain ⟨dx,gs,h1,_⟩:=t.ex
 obtain ⟨vs,e1,_⟩:=t.he
 obtain ⟨us,l1,_⟩:=t.hl
 exact ⟨ox h1 t.hc (fun z=>nomatch z),ox h1 t.hk (fun z=>nomatch z),ox h1 e1 (fun z=>nomatch z),ox h1 l1 (fun z=>nomatch z)⟩
theorem j6 (s:bW F H) {b:Addr} (hf:F b=none) (o:HO):bW F (upd H b o):=fun x u e=>by
 rw [aN fun z=>by subst z;rw [hf] at e;cases e]
 exact s x u e
theorem TS.cells (t:TS K C F H A w a) (l:List Nat):TS K C F (upd H w.c (.lst (vL l))) A w { a with now:={ a.now with town:=l } }:=by
 obtain ⟨n1,n2,n3,n4⟩:=t.nA
 obtain ⟨dx,gs,h1,h2⟩:=t.ex
 obtain ⟨vs,e1,e2⟩:=t.he
 obtain ⟨us,l1,l2⟩:=t.hl
 exact ⟨⟨dx,gs,by rw [aN n1];exact h1,h2⟩,aL,by rw [aN t.ap.ck.symm];exact t.hk,⟨vs,by rw [aN t.ap.ce.symm];exact e1,e2⟩,⟨us,by rw [aN t.ap.cl.symm];exact l1,l2⟩,j6 t.fh (t.nf _ (.inr (.inl rfl))) _,t.nf,t.ap⟩
theorem TS.clues (t:TS K C F H A w a) (c:List (List Nat)):TS K C F (upd H w.k (.lst (vL c.flatten))) A w { a with now:={ a.now with clues:=c } }:=by
 obtain ⟨n1,n2,n3,n4⟩:=t.nA
 obtain ⟨dx,gs,h1,h2⟩:=t.ex
 obtain ⟨vs,e1,e2⟩:=t.he
 obtain ⟨us,l1,l2⟩:=t.hl
 exact ⟨⟨dx,gs,by rw [aN n2];exact h1,h2⟩,by rw [aN t.ap.ck];exact t.hc,aL,⟨vs,by rw [aN t.ap.ke.symm];exact e1,e2⟩,⟨us,by rw [aN t.ap.kl.symm];exact l1,l2⟩,j6 t.fh (t.nf _ (.inr (.inr (.inl rfl)))) _,t.nf,t.ap⟩
theorem TS.Om (t:TS K C F H A w a) (u:List ag) {vs:List V} (h:cG K F (u.reverse.map mD) vs):TS K C F (upd H w.e (.lst vs)) A w { a with undo:=u }:=by
 obtain ⟨n1,n2,n3,n4⟩:=t.nA
 obtain ⟨dx,gs,h1,h2⟩:=t.ex
 obtain ⟨us,l1,l2⟩:=t.hl
 exact ⟨⟨dx,gs,by rw [aN n3];exact h1,h2⟩,by rw [aN t.ap.ce];exact t.hc,by rw [aN t.ap.ke];exact t.hk,⟨vs,aL,h⟩,⟨us,by rw [aN t.ap.el.symm];exact l1,l2⟩,j6 t.fh (t.nf _ (.inr (.inr (.inr (.inl rfl))))) _,t.nf,t.ap⟩
theorem TS.UA (t:TS K C F H A w a) (u:List ag) {vs:List V} (h:cG K F (u.reverse.map mD) vs):TS K C F (upd H w.l (.lst vs)) A w { a with redo:=u }:=by
 obtain ⟨n1,n2,n3,n4⟩:=t.nA
 obtain ⟨dx,gs,h1,h2⟩:=t.ex
 obtain ⟨us,l1,l2⟩:=t.he
 exact ⟨⟨dx,gs,by rw [aN n4];exact h1,h2⟩,by rw [aN t.ap.cl];exact t.hc,by rw [aN t.ap.kl];exact t.hk,⟨us,by rw [aN t.ap.el];exact l1,l2⟩,⟨vs,aL,h⟩,j6 t.fh (t.nf _ (.inr (.inr (.inr (.inr rfl))))) _,t.nf,t.ap⟩
theorem TS.field (t:TS K C F H A w a) {dx:Addr} {gs:List (Str×V)} (h:H A=some (.ins C dx gs)) {f:Str} {v u:V} (hf:gs.lookup f=some u) {w':Own} {a':aE}
  (hn:(cW f v gs).lookup ("n" : Str)=some (.int a'.now.n)) (h1:(cW f v gs).lookup ("cells" : Str)=some (.ref w'.c)) (h2:(cW f v gs).lookup ("clues" : Str)=some (.ref w'.k)) (h3:(cW f v gs).lookup ("earlier" : Str)=some (.ref w'.e)) (h4:(cW f v gs).lookup ("later" : Str)=some (.ref w'.l))
  (hc:H w'.c=some (.lst (vL a'.now.town))) (hk:H w'.k=some (.lst (vL a'.now.clues.flatten))) (he:∃vs,H w'.e=some (.lst vs)∧cG K F (a'.undo.reverse.map mD) vs) (hl:∃vs,H w'.l=some (.lst vs)∧cG K F (a'.redo.reverse.map mD) vs)
  (nf:∀b,w'.has A b→F b=none) (ap:w'.Ap):TS K C F (upd H A (.ins C dx (cW f v gs))) A w' a':=by
 obtain ⟨Mn,Mo,g1,_,_,_,_,_,g7⟩:=t.ex
 rw [h] at g1
 cases g1
 obtain ⟨vs,e1,e2⟩:=he
 obtain ⟨us,l1,l2⟩:=hl
 exact ⟨⟨dx,_,aL,hn,h1,h2,h3,h4,by rw [zm hf];exact g7⟩,by rw [aN (ox hc h fun z=>nomatch z)];exact hc,by rw [aN (ox hk h fun z=>nomatch z)];exact hk,
  ⟨vs,by rw [aN (ox e1 h fun z=>nomatch z)];exact e1,e2⟩,⟨us,by rw [aN (ox l1 h fun z=>nomatch z)];exact l1,l2⟩,j6 t.fh (t.nf _ (.inl rfl)) _,nf,ap⟩
theorem TS.fn (t:TS K C F H A w a) {dx:Addr} {gs:List (Str×V)} (h:H A=some (.ins C dx gs)) (n:Nat):TS K C F (upd H A (.ins C dx (cW "n" (.int n) gs))) A w { a with now:={ a.now with n:=n } }:=by
 obtain ⟨Mn,Mo,g1,g2,g3,g4,g5,g6,g7⟩:=t.ex
 rw [h] at g1
 cases g1
 exact t.field h g2 (by rw [aU];first|rw [if_pos rfl]|(rw [if_neg (by decide +kernel)];assumption)) (by rw [aU];first|rw [if_pos rfl]|(rw [if_neg (by decide +kernel)];assumption)) (by rw [aU];first|rw [if_pos rfl]|(rw [if_neg (by decide +kernel)];assumption)) (by rw [aU];first|rw [if_pos rfl]|(rw [if_neg (by decide +kernel)];assumption)) (by rw [aU];first|rw [if_pos rfl]|(rw [if_neg (by decide +kernel)];assumption)) t.hc t.hk t.he t.hl t.nf t.ap
theorem TS.tu (t:TS K C F H A w a) {dx:Addr} {gs:List (Str×V)} (h:H A=some (.ins C dx gs)) {p:Addr} {l:List Nat} (hp:H p=some (.lst (vL l))) (hf:F p=none) (ap:p≠w.k∧p≠w.e∧p≠w.l):TS K C F (upd H A (.ins C dx (cW "cells" (.ref p) gs))) A { w with c:=p } { a with now:={ a.now with town:=l } }:=by
 obtain ⟨Mn,Mo,g1,g2,g3,g4,g5,g6,g7⟩:=t.ex
 rw [h] at g1
 cases g1
 refine t.field h g3 (by rw [aU];first|rw [if_pos rfl]|(rw [if_neg (by decide +kernel)];assumption)) (by rw [aU];first|rw [if_pos rfl]|(rw [if_neg (by decide +kernel)];assumption)) (by rw [aU];first|rw [if_pos rfl]|(rw [if_neg (by decide +kernel)];assumption)) (by rw [aU];first|rw [if_pos rfl]|(rw [if_neg (by decide +kernel)];assumption)) (by rw [aU];first|rw [if_pos rfl]|(rw [if_neg (by decide +kernel)];assumption)) hp t.hk t.he t.hl (fun b hb=>?_) ⟨ap.1,ap.2.1,ap.2.2,t.ap.ke,t.ap.kl,t.ap.el⟩
 rcases hb with rfl|rfl|rfl|rfl|rfl
 ·exact t.nf _ (.inl rfl)
 ·exact hf
 ·exact t.nf _ (.inr (.inr (.inl rfl)))
 ·exact t.nf _ (.inr (.inr (.inr (.inl rfl))))
 ·exact t.nf _ (.inr (.inr (.inr (.inr rfl))))
theorem TS.vF (t:TS K C F H A w a) {dx:Addr} {gs:List (Str×V)} (h:H A=some (.ins C dx gs)) {p:Addr} {c:List (List Nat)} (hp:H p=some (.lst (vL c.flatten))) (hf:F p=none) (ap:p≠w.c∧p≠w.e∧p≠w.l):TS K C F (upd H A (.ins C dx (cW "clues" (.ref p) gs))) A { w with k:=p } { a with now:={ a.now with clues:=c } }:=by
 obtain ⟨Mn,Mo,g1,g2,g3,g4,g5,g6,g7⟩:=t.ex
 rw [h] at g1
 cases g1
 refine t.field h g4 (by rw [aU];first|rw [if_pos rfl]|(rw [if_neg (by decide +kernel)];assumption)) (by rw [aU];first|rw [if_pos rfl]|(rw [if_neg (by decide +kernel)];assumption)) (by rw [aU];first|rw [if_pos rfl]|(rw [if_neg (by decide +kernel)];assumption)) (by rw [aU];first|rw [if_pos rfl]|(rw [if_neg (by decide +kernel)];assumption)) (by rw [aU];first|rw [if_pos rfl]|(rw [if_neg (by decide +kernel)];assumption)) t.hc hp t.he t.hl (fun b hb=>?_) ⟨ap.1.symm,t.ap.ce,t.ap.cl,ap.2.1,ap.2.2,t.ap.el⟩
 rcases hb with rfl|rfl|rfl|rfl|rfl
 ·exact t.nf _ (.inl rfl)
 ·exact t.nf _ (.inr (.inl rfl))
 ·exact hf
 ·exact t.nf _ (.inr (.inr (.inr (.inl rfl))))
 ·exact t.nf _ (.inr (.inr (.inr (.inr rfl))))
theorem TS.UB (t:TS K C F H A w a) {dx:Addr} {gs:List (Str×V)} (h:H A=some (.ins C dx gs)) {p:Addr} (hp:H p=some (.lst [])) (hf:F p=none) (ap:p≠w.c∧p≠w.k∧p≠w.l):TS K C F (upd H A (.ins C dx (cW "earlier" (.ref p) gs))) A { w with e:=p } { a with undo:=[] }:=by
 obtain ⟨Mn,Mo,g1,g2,g3,g4,g5,g6,g7⟩:=t.ex
 rw [h] at g1
 cases g1
 refine t.field h g5 (by rw [aU];first|rw [if_pos rfl]|(rw [if_neg (by decide +kernel)];assumption)) (by rw [aU];first|rw [if_pos rfl]|(rw [if_neg (by decide +kernel)];assumption)) (by rw [aU];first|rw [if_pos rfl]|(rw [if_neg (by decide +kernel)];assumption)) (by rw [aU];first|rw [if_pos rfl]|(rw [if_neg (by decide +kernel)];assumption)) (by rw [aU];first|rw [if_pos rfl]|(rw [if_neg (by decide +kernel)];assumption)) t.hc t.hk ⟨_,hp,bX⟩ t.hl (fun b hb=>?_) ⟨t.ap.ck,ap.1.symm,t.ap.cl,ap.2.1.symm,t.ap.kl,ap.2.2⟩
 rcases hb with rfl|rfl|rfl|rfl|rfl
 ·exact t.nf _ (.inl rfl)
 ·exact t.nf _ (.inr (.inl rfl))
 ·exact t.nf _ (.inr (.inr (.inl rfl)))
 ·exact hf
 ·exact t.nf _ (.inr (.inr (.inr (.inr rfl))))
theorem TS.Po (t:TS K C F H A w a) {dx:Addr} {gs:List (Str×V)} (h:H A=some (.ins C dx gs)) {p:Addr} (hp:H p=some (.lst [])) (hf:F p=none) (ap:p≠w.c∧p≠w.k∧p≠w.e):TS K C F (upd H A (.ins C dx (cW "later" (.ref p) gs))) A { w with l:=p } { a with redo:=[] }:=by
 obtain ⟨Mn,Mo,g1,g2,g3,g4,g5,g6,g7⟩:=t.ex
 rw [h] at g1
 cases g1
 refine t.field h g6 (by rw [aU];first|rw [if_pos rfl]|(rw [if_neg (by decide +kernel)];assumption)) (by rw [aU];first|rw [if_pos rfl]|(rw [if_neg (by decide +kernel)];assumption)) (by rw [aU];first|rw [if_pos rfl]|(rw [if_neg (by decide +kernel)];assumption)) (by rw [aU];first|rw [if_pos rfl]|(rw [if_neg (by decide +kernel)];assumption)) (by rw [aU];first|rw [if_pos rfl]|(rw [if_neg (by decide +kernel)];assumption)) t.hc t.hk t.he ⟨_,hp,bX⟩ (fun b hb=>?_) ⟨t.ap.ck,t.ap.ce,ap.1.symm,t.ap.ke,ap.2.1.symm,ap.2.2.symm⟩
 rcases hb with rfl|rfl|rfl|rfl|rfl
 ·exact t.nf _ (.inl rfl)
 ·exact t.nf _ (.inr (.inl rfl))
 ·exact t.nf _ (.inr (.inr (.inl rfl)))
 ·exact t.nf _ (.inr (.inr (.inr (.inl rfl))))
 ·exact hf
theorem cP.G3 {g:ag} (ok:cP g):g.town.length≤16∧g.clues.flatten.length=4*g.n∧g.n≤4:=by
 have hn:=ok.hi
 have hnn:g.n*g.n≤4*4:=kZ hn hn
 exact ⟨by rw [ok.town];omega,by rw [jj ok.row,ok.four],hn⟩
theorem TS.Oo (t:TS K C F H A w a) (c:pA K C) (ok:cP a.now) {G:Hp} (hA:G A=H A) (hc:G w.c=H w.c) (hk:G w.k=H w.k):Den K G (tD a.now) (.ref A):=by
 obtain ⟨dx,gs,h1,h2,h3,h4,_⟩:=t.ex
 obtain ⟨e1,e2,e3⟩:=ok.G3
 exact zl (hA.trans h1) c.cl (g8 c.n h2 (g8 c.cells h3 (g8 c.clues h4 uv)))
  (bD (bR _) (bD (oa (hc.trans t.hc) (by omega)) (bD (oa (hk.trans t.hk) (by omega)) bX)))
theorem TS.den (t:TS K C F H A w a) (c:pA K C) (ok:cP a.now):Den K H (tD a.now) (.ref A):=t.Oo c ok rfl rfl rfl
theorem xU {G:Hp}:∀vs:List V,cG K G (aH vs.length .any) vs
 | []=>bX
 | v::vs=>bD (by unfold Den;trivial) (xU vs)
theorem TS.XD (t:TS K C F H A w a) (c:pA K C) (ok:cP a.now) (hu:a.undo.length≤100) (hr:a.redo.length≤100) {G:Hp} (hG:∀b,w.has A b→G b=H b):Den K G (xS (a.now,a.undo.length,a.redo.length)) (.ref A):=by
 obtain ⟨dx,gs,h1,h2,h3,h4,h5,h6,_⟩:=t.ex
 obtain ⟨e1,e2,e3⟩:=ok.G3
 obtain ⟨vs,f1,f2⟩:=t.he
 obtain ⟨us,l1,l2⟩:=t.hl
 have z1:a.undo.length=vs.length:=by have:=bP f2;rw [ah,a9] at this;exact this
 have z2:a.redo.length=us.length:=by have:=bP l2;rw [ah,a9] at this;exact this
 have hz:(1000:Nat)≤sizeLine:=by decide
 have d1:cG K G (aH a.undo.length .any) vs:=by rw [z1];exact xU vs
 have d2:cG K G (aH a.redo.length .any) us:=by rw [z2];exact xU us
 exact zl ((hG _ (.inl rfl)).trans h1) c.cl (g8 c.n h2 (g8 c.cells h3 (g8 c.clues h4 (g8 c.kO h5 (g8 c.later h6 uv)))))
  (bD (bR _) (bD (oa (l:=a.now.town) ((hG _ (.inr (.inl rfl))).trans t.hc) (by omega)) (bD (oa (l:=a.now.clues.flatten) ((hG _ (.inr (.inr (.inl rfl)))).trans t.hk) (by omega)) (bD (gA (by rw [c9];show a.undo.length≤_;omega) ((hG _ (.inr (.inr (.inr (.inl rfl))))).trans f1) d1) (bD (gA (by rw [c9];show a.redo.length≤_;omega) ((hG _ (.inr (.inr (.inr (.inr rfl))))).trans l1) d2) bX)))))
end
end Tn
namespace Mi
open PySem PySem.Spec PyProof.Rows L2
theorem kE {k:Nat} {X:Cx} {x:Expr} {N:List Str} {sc:Scope} (e:E) (G:Good X k) (hN:X.N=N) (hs:X.env.scope=sc) (ok:dz (Cx.cc X k) e:=by simp only [dz,cD,iA,il,hZ,cZ,and_true,true_and,and_self]<;>(repeat' apply And.intro)<;>first|assumption|exact W.fm|exact W.eJ|exact W.dN|exact W.gD|exact W.gh|exact W.jl|exact W.gQ|exact W.js|exact W.dO|exact W.jy|exact W.lq|exact W.lr|exact W.mN|exact W.j7|exact W.dP|exact W.fF|exact W.lu|exact W.wO|exact W.dU|exact W.iM|exact W.oe|exact W.og|exact W.si|exact W.sj|exact W.Mp|exact W.qK|exact W.qL|exact W.mO|exact W.qM|exact W.mP|exact W.zo|exact W.qN|exact W.mQ|exact W.mR|exact W.qO|exact W.qP|exact W.oh|exact W.sk|exact W.oi|exact W.mS|exact W.oj|exact W.AO|exact W.so|exact W.kP|exact W.qQ|exact W.sq|exact W.om|exact W.Pp|exact p.jt|exact p.ju|exact p.fZ|exact p.dG|exact p.gR|exact p.eU|exact p.dj|exact p.f6|exact p.dW|exact p.eV|exact p.g9|exact p.eW|exact p.eX|exact p.dX|exact p.eY|exact p.eZ|exact p.g_|exact p.hC|exact p.fG) (h:bN N sc e x=true:=by decide +kernel):PE X x (tM X.K (bH e)):=by
 subst hN hs
 exact sE e G ok h
theorem tG {k:Nat} {X:Cx} {x:Expr} {N:List Str} {sc:Scope} (e:E) (G:Good X k) (hN:X.N=N) (hs:X.env.scope=sc) (ok:dz (Cx.cc X k) e:=by simp only [dz,cD,iA,il,hZ,cZ,and_true,true_and,and_self]<;>(repeat' apply And.intro)<;>first|assumption|exact W.fm|exact W.eJ|exact W.dN|exact W.gD|exact W.gh|exact W.jl|exact W.gQ|exact W.js|exact W.dO|exact W.jy|exact W.lq|exact W.lr|exact W.mN|exact W.j7|exact W.dP|exact W.fF|exact W.lu|exact W.wO|exact W.dU|exact W.iM|exact W.oe|exact W.og|exact W.si|exact W.sj|exact W.Mp|exact W.qK|exact W.qL|exact W.mO|exact W.qM|exact W.mP|exact W.zo|exact W.qN|exact W.mQ|exact W.mR|exact W.qO|exact W.qP|exact W.oh|exact W.sk|exact W.oi|exact W.mS|exact W.oj|exact W.AO|exact W.so|exact W.kP|exact W.qQ|exact W.sq|exact W.om|exact W.Pp|exact p.jt|exact p.ju|exact p.fZ|exact p.dG|exact p.gR|exact p.eU|exact p.dj|exact p.f6|exact p.dW|exact p.eV|exact p.g9|exact p.eW|exact p.eX|exact p.dX|exact p.eY|exact p.eZ|exact p.g_|exact p.hC|exact p.fG) (h:(jG e&&bN N sc e x)=true:=by decide +kernel):PT X x (tV X.K fun ρ=>(bH e ρ).bind fU):=by
 subst hN hs
 rw [aj] at h
 exact sT e G ok h.2 h.1
theorem tH {k:Nat} {X:Cx} {x:Expr} {N:List Str} {sc:Scope} (l:Es) (G:Good X k) (hN:X.N=N) (hs:X.env.scope=sc) (ok:cD (Cx.cc X k) l:=by simp only [dz,cD,iA,il,hZ,cZ,and_true,true_and,and_self]<;>(repeat' apply And.intro)<;>first|assumption|exact W.fm|exact W.eJ|exact W.dN|exact W.gD|exact W.gh|exact W.jl|exact W.gQ|exact W.js|exact W.dO|exact W.jy|exact W.lq|exact W.lr|exact W.mN|exact W.j7|exact W.dP|exact W.fF|exact W.lu|exact W.wO|exact W.dU|exact W.iM|exact W.oe|exact W.og|exact W.si|exact W.sj|exact W.Mp|exact W.qK|exact W.qL|exact W.mO|exact W.qM|exact W.mP|exact W.zo|exact W.qN|exact W.mQ|exact W.mR|exact W.qO|exact W.qP|exact W.oh|exact W.sk|exact W.oi|exact W.mS|exact W.oj|exact W.AO|exact W.so|exact W.kP|exact W.qQ|exact W.sq|exact W.om|exact W.Pp|exact p.jt|exact p.ju|exact p.fZ|exact p.dG|exact p.gR|exact p.eU|exact p.dj|exact p.f6|exact p.dW|exact p.eV|exact p.g9|exact p.eW|exact p.eX|exact p.dX|exact p.eY|exact p.eZ|exact p.g_|exact p.hC|exact p.fG) (h:bN N sc (.lst l) x=true:=by decide +kernel):PE X x (J9 X.K (kj l)):=by
 subst hN hs
 unfold bN at h
 have hi:=mw h
 clear h
 obtain ⟨xs,p,rfl,h⟩:=hi
 simp only [aj,decide_eq_true_eq] at h
 have hz:(1000:Nat)≤sizeLine:=by decide
 exact O5 (pos:=p) (R4 l G ok h.2) fun ρ ds e=>by rw [qt e];omega
theorem XE {k:Nat} {X:Cx} {st:Stmt} {N:List Str} {sc:Scope} (a:S) (G:Good X k) (hf:∀x,X.fn x=true) (hp:PassesOwn (model X.prog X.w) X.A X.env X.xe) (hN:X.N=N) (hs:X.env.scope=sc) (ok:hZ (Cx.cc X k) a) (h:ub N sc a st=true):PS X st (xI X.K (uI a)):=by
 subst hN hs
 exact sS a G hf hp ok h
theorem XF {k:Nat} {X:Cx} {st:List Stmt} {N:List Str} {sc:Scope} (a:Ss) (G:Good X k) (hf:∀x,X.fn x=true) (hp:PassesOwn (model X.prog X.w) X.A X.env X.xe) (hN:X.N=N) (hs:X.env.scope=sc) (ok:cZ (Cx.cc X k) a) (h:bY N sc a st=true):wm X st (xI X.K (cf a)):=by
 subst hN hs
 exact R5 a G hf hp ok h
structure rB (c:Cc) (x:Str) (ps:List Str) (sp:Sp):Prop where
 ex:∃(f:Addr) (fd:FuncData),eS c.P c.w c.K c.mg c.base iR c.k f fd ps sp∧c.mg x=some (.ref f)∧dt c.K (.ref f)=true∧Binds c.K fd ps []
theorem hc {X:Cx} {k:Nat} {x:Str} {ps:List Str} {sp:Sp} {p pos:Pos} {e:Expr} {es:List Expr} {t:TA} {sc:Scope} (F:rB (Cx.cc X k) x ps sp) (G:Good X k) (hs:X.env.scope=sc) (hg:pY sc x=true) (ha:PA X (e::es) t) (hp:(e::es).all plain=true) (Ge:(x == ("__debug__" : Str))=false):PE X (.Call (.Name x p) (e::es) [] pos) (Hx sp [] E0 t):=by
 subst hs
 obtain ⟨f,fd,F,hm,hk,hb⟩:=F.ex
 rw [dk,aj] at hp
 exact Hy F G.room (gv hg) hm hk hb .nil K1 ha Ge (cX hp.1) (m7 hp.2)
theorem Ext.add {F H H':Hp} {p:Addr} {o:HO} (f:bW F H) (s:bW H H') (np:H p=none) (hp:H' p=some o):Ext F H (upd F p o) H' :=
 ⟨s,eF (same_none f np) o,fun b u e=>by
  by_cases hb:b=p
  ·subst hb;rw [aL] at e;rw [hp];exact e
  ·rw [aN hb] at e;exact s _ _ (f _ _ e),fun b h1 h2=>by
  by_cases hb:b=p
  ·subst hb;exact absurd np h2
  ·rw [aN hb];exact h1⟩
end Mi
namespace Tn
open PySem PySem.Spec PyProof.Rows L2 Mi
noncomputable def top (i:Nat):Stmt:=PySem.Challenge.pw_townclues_s01_answers.main.body.getD i (.Pass ⟨0,0,0,0⟩)
noncomputable def aV (a:aW):List V:=.int a.ret::vL a.out
theorem Dh {K:ab} {G:Hp} (a:aW):cG K G (.int a.ret::a.out.map iN) (aV a):=bD (bR _) (mM _)
theorem Mq {K:ab} {G:Hp} {a:aW} {vs:List V} (h:cG K G (.int a.ret::a.out.map iN) vs):vs=aV a:=by
 obtain ⟨v,r,rfl,h1,h2⟩:=bM h
 rw [bF h1,qJ h2];rfl
noncomputable abbrev Mr:=ag→List Nat→ag×aW
noncomputable def DR (K:ab) (C:Addr) (m:Nat) (f:Mr):Sp:=fun vs H Q _=>∃(A:Addr) (F:Hp) (w:Own) (a:aE) (xs:List Nat),vs=.ref A::vL xs∧xs.length=m∧TS K C F H A w a∧cP a.now ∧
 ∀v F' H' w',TS K C F' H' A w' { a with now:=(f a.now xs).1 }→kD A F H w F' H' w'→Den K F' (dq (f a.now xs).2) v→Q v H'
theorem hE {K:ab} {C A:Addr} {F H F1 H1 H2:Hp} {w1:Own} {a1:aE} {p:Addr} {vs:List V} {r:aW} {ds:List D} {Q:VK} {O:Addr→Prop} (t:TS K C F1 H1 A w1 a1) (st:jk A F H O F1 H1 w1) (s:bW H1 H2) (np:H1 p=none) (hp:H2 p=some (.lst vs)) (dl:cG K H2 ds vs) (hd:ds=.int r.ret::r.out.map iN)
  (hz:ds.length≤sizeLine) (q:∀v F' H' w',TS K C F' H' A w' a1→jk A F H O F' H' w'→Den K F' (dq r) v→Q v H'):Q (.ref p) H2:=by
 subst hd
 have e:=Mq dl
 subst e
 have ex:=Ext.add t.fh s np hp
 exact q _ _ H2 w1 (t.ext ex) (st.ext ex) (gA hz aL (Dh r))
structure Wd (K:ab) (mg:Str→Option Value) (C:Addr):Prop where
 T:pA K C
 bl:Vn mg
 fm:k7 K mg "NO_SUCH" (.int (-22))
 eJ:k7 K mg "NONE_THERE" (.int (-2))
 dN:k7 K mg "TOWER_STANDS" (.int (-17))
 gD:k7 K mg "NO_TOWER" (.int (-12))
 gh:k7 K mg "NOT_BEGUN" (.int (-61))
 jl:k7 K mg "NO_TOWN" (.int (-71))
 gQ:k7 K mg "NO_WAY" (.int (-33))
 js:k7 K mg "UNSURE" (.int (-6))
 dO:k7 K mg "HIGHEST_SIZE" (.int 4)
 jy:k7 K mg "ABOVE" (.int 0)
 lq:k7 K mg "RIGHT" (.int 1)
 lr:k7 K mg "BELOW" (.int 2)
 mN:k7 K mg "LEFT" (.int 3)
 j7:k7 K mg "SIDES" (.int 4)
 dP:k7 K mg "MOST_CHANGES" (.int 20)
 fF:k7 K mg "LINE_END" (.int 10)
 lu:k7 K mg "BLANK" (.int 32)
 wO:k7 K mg "DOT" (.int 46)
 dU:k7 K mg "DIGIT_ZERO" (.int 48)
 iM:k7 K mg "NO_SIGN" (.int (-1))
 oe:k7 K mg "START" (.int 0)
 og:k7 K mg "BUILD" (.int 1)
 si:k7 K mg "TEAR" (.int 2)
 sj:k7 K mg "TELL" (.int 3)
 Mp:k7 K mg "AT" (.int 4)
 qK:k7 K mg "SEEN" (.int 5)
 qL:k7 K mg "CLUE" (.int 6)
 mO:k7 K mg "CLASH" (.int 7)
 qM:k7 K mg "DONE" (.int 8)
 mP:k7 K mg "COUNT" (.int 9)
 zo:k7 K mg "NTH" (.int 10)
 qN:k7 K mg "SURE" (.int 11)
 mQ:k7 K mg "COULD" (.int 12)
 mR:k7 K mg "KNOWN" (.int 13)
 qO:k7 K mg "LINE" (.int 14)
 qP:k7 K mg "HINT" (.int 15)
 oh:k7 K mg "SOLVE" (.int 16)
 sk:k7 K mg "FILL" (.int 17)
 oi:k7 K mg "SPARE" (.int 18)
 mS:k7 K mg "VIEWS" (.int 19)
 oj:k7 K mg "CLEAR" (.int 20)
 AO:k7 K mg "ASK" (.int 21)
 so:k7 K mg "TURN" (.int 22)
 kP:k7 K mg "MIRROR" (.int 23)
 qQ:k7 K mg "TEXT" (.int 24)
 sq:k7 K mg "BACK" (.int 25)
 om:k7 K mg "AGAIN" (.int 26)
 Pp:k7 K mg "NUMBERS_BEHIND" (.tup (arity.map iN))
structure Ps (c:Cc):Prop where
 jt:fY c "is_cell" h9
 ju:fY c "is_line" iU
 fZ:fY c "line_clue" cb
 dG:fY c "line_towers" cy
 gR:fY c "line_towers" gC
 eU:fY c "count_seen" di
 dj:fY c "count_towers" fM
 f6:fY c "town_ways" dF
 dW:fY c "answer_hint" (Ac .hint)
 eV:fY c "text_lines" jW
 g9:fY c "has_form" mG
 eW:fY c "read_cells" jY
 eX:fY c "read_clues" jZ
 dX:fY c "towers_from" ia
 eY:fY c "side_clues" j4
 eZ:fY c "only_wrong" j5
 g_:fY c "signs_of" iJ
 hC:fY c "row_line" mI
 fG:fY c "edge_line" jE
noncomputable abbrev x1 (a:E):Es:=.cons a .nil
noncomputable abbrev x2 (a b:E):Es:=.cons a (.cons b .nil)
noncomputable abbrev x3 (a b c:E):Es:=.cons a (.cons b (.cons c .nil))
noncomputable abbrev Vx:E:=.gl "NO_SUCH" (.int (-22))
noncomputable abbrev Vy:E:=.gl "NONE_THERE" (.int (-2))
theorem rC:∀{l:List Nat} {c h:Nat},c < l.length→l.getD c 0=0→h≠0→aD (l.set c h)=aD l+1
 | [],c,h,hc,_,_=>by simp at hc
 | a::l,0,h,_,h0,hh=>by
  have:a=0:=h0
  subst this
  unfold aD
  rw [Nd,c5,c5]
  have e:(h != 0)=true:=by rw [bne_iff_ne];exact hh
  rw [e];rfl
 | a::l,c+1,h,hc,h0,hh=>by
  have ih:=rC (l:=l) (c:=c) (h:=h) (by simpa using hc) h0 hh
  unfold aD at ih ⊢
  rw [Nf,c5,c5]
  cases (a != 0) with
  | true=>simp [ih]
  | false=>simp [ih]
theorem Di (l:List Nat) (i h:Nat):(vL l).set i (.int h)=vL (l.set i h):=by unfold vL;rw [List.map_set]
theorem eK (l:List Nat):(vL l).length=l.length:=ah _
section
variable {P:Program} {w:World} {K:ab} {mg:Str→Option Value} {base:Heap} {C:Addr} {k:Nat} {f:Addr} {fd:FuncData}
theorem Fm {l:List Nat} {c:Nat} (h:c < l.length):MW (vL l).length (c:Int)=some c:=by
 unfold MW
 rw [eK,if_pos (by omega),if_pos (by omega)];rfl
namespace Dbuild
noncomputable def nN:List Str:=["town","cell","height"]
noncomputable abbrev sS:Stmt:=top 48
theorem sc:aS nN nN (aa sS):=⟨rfl,rfl,rfl,by decide +kernel,rfl,by decide +kernel,by decide +kernel⟩
noncomputable def iZ:Mr:=fun g xs=>let c:=xs.getD 0 0;let h:=xs.getD 1 0
 if g.n*g.n≤c∨h < 1∨g.n < h then (g,aw (-22)) else if aA g.town c≠0 then (g,aw (-17)) else ({ g with town:=g.town.set c h },aw (aD g.town+1:Nat))
theorem ok (F:p6 K "answer_build" "answer_build" sS f fd) (W:Wd K mg C) (p:Ps ⟨P,w,K,mg,base,k⟩):eS P w K mg base iR (k+1) f fd nN (DR K C 2 iZ):=by
 refine F.ok sc (fun vs H Q E h=>?_) (fun ft A0 outer s H vs Q E hr h=>?_)
 ·obtain ⟨_,_,_,_,xs,rfl,p0,_⟩:=h
  show (vL xs).length+1=_
  rw [eK,p0];rfl
 ·obtain ⟨A,F0,ow,a,xs,rfl,p0,t,ok,q⟩:=h
  obtain ⟨c,h,rfl⟩:=Rl p0
  have G:Good (iz iR P w K mg base nN "answer_build" (aa sS) f ft A0 outer s H E).q5 k:=⟨hr,rfl,sc.nd,W.bl⟩
  refine ⟨_,aF (fS ((tG (N:=nN) (sc:=aa sS) (.or (x3 (.not (.call "is_cell" h9 (x2 (.var 0) (.var 1)))) (.op .lt (.var 2) (.int 1)) (.op .gt (.var 2) (.fld (.var 0) "n")))) G rfl rfl)) (bw (b5 ((tH (N:=nN) (sc:=aa sS) (x1 Vx) G rfl rfl)))) c_)
   (aF (fS ((tG (N:=nN) (sc:=aa sS) (.op .gt (.ix (.fld (.var 0) "cells") (.var 1)) (.int 0)) G rfl rfl)) (bw (b5 ((tH (N:=nN) (sc:=aa sS) (x1 (.gl "TOWER_STANDS" (.int (-17)))) G rfl rfl)))) c_)
   (aF (Cp (pv 2) (Co (kg (pv 0) rfl) (pv 1) set_list))
   (bw (b5 ((tH (N:=nN) (sc:=aa sS) (x1 (.call "count_towers" fM (x1 (.var 0)))) G rfl rfl)))))),?_⟩
  have town:=ok.town
  have hz:(1:Nat)≤sizeLine:=by decide
  have sl:∀{H1:Hp} {a1:aE},TS K C F0 H1 A ow a1→cP a1.now→Slots K H1 (L2.start nN [.ref A,.int c,.int h]) [some (tD a1.now),some (iN c),some (iN h)]:=fun t1 o1=>aB (t1.den W.T o1) (aB (bR _) (aB (bR _) aK))
  refine gJ (sl t ok) (Ph (v7 (aM (ai (af rfl) (ai (af rfl) ay)) (sX ok))) (fun _=>bx (af rfl) a_ (EG (b:=1))) (fun _ _=>bx (af rfl) (cq (af rfl) (gL a.now)) jD)) fun H1 s1=>?_
  have t1:=t.same s1
  have ot:kD A F0 H ow F0 H1 ow:=kD.refl.same s1
  by_cases hb:a.now.n*a.now.n≤c∨h < 1∨a.now.n < h
  ·have eb:((!decide (c < a.now.n*a.now.n))||(decide (h < 1)||decide (a.now.n < h)))=true:=by simp only [cY,fA,decide_eq_true_eq,decide_eq_false_iff_not];omega
   rw [eb,if_pos rfl]
   have ee:iZ a.now [c,h]=(a.now,aw (-22)):=if_pos hb
   rw [ee] at q
   exact jI (sl t1 ok) (ai bZ ay) fun p vs H2 s2 np hp _ dl=>hE t1 ot s2 np hp dl rfl hz q
  ·have eb:((!decide (c < a.now.n*a.now.n))||(decide (h < 1)||decide (a.now.n < h)))=false:=by
    rw [pL];simp only [ne_eq,cY,fA,decide_eq_true_eq,decide_eq_false_iff_not];omega
   rw [eb,if_neg (by decide)]
   have hc:c < a.now.town.length:=by omega
   refine gJ (sl t1 ok) (bx (eA (cq (af rfl) (eP a.now)) (af rfl) (jQ hc)) a_ (jD (b:=0))) fun H2 s2=>?_
   have t2:=t1.same s2
   have rL:=ot.same s2
   by_cases h0:aA a.now.town c≠0
   ·have XG:decide (0 < a.now.town.getD c 0)=true:=decide_eq_true (Nat.pos_of_ne_zero h0)
    rw [XG,if_pos rfl]
    have ee:iZ a.now [c,h]=(a.now,aw (-17)):=(if_neg hb).trans (if_pos h0)
    rw [ee] at q
    exact jI (sl t2 ok) (ai bZ ay) fun p vs H3 s3 np hp _ dl=>hE t2 rL s3 np hp dl rfl hz q
   ·have h00:a.now.town.getD c 0=0:=by unfold aA at h0;omega
    rw [decide_eq_false (show ¬0 < a.now.town.getD c 0 by omega),if_neg (by decide)]
    obtain ⟨dx,gs,x1,x2,x3,x4⟩:=t2.ex
    refine ⟨_,rfl,_,rfl,A,C,dx,gs,.ref ow.c,rfl,x1,W.T.cl,W.T.cells,x3,_,rfl,ow.c,_,_,c,rfl,rfl,t2.hc,Fm hc,?_⟩
    rw [Di]
    have t3:=t2.cells (a.now.town.set c h)
    have oP:=rL.put (.inr (.inl rfl)) (.lst (vL (a.now.town.set c h)))
    have ee:iZ a.now [c,h]=({ a.now with town:=a.now.town.set c h },aw (aD a.now.town+1:Nat)):=(if_neg hb).trans (if_neg h0)
    rw [ee,←rC hc h00 (show h≠0 by omega)] at q
    exact jI (sl t3 (xT ok (by omega))) (ai (aM (ai (af rfl) ay) k8) ay) fun p vs H4 s4 np hp _ dl=>hE t3 oP s4 np hp dl rfl hz q
end Dbuild
end
end Tn
namespace Tn
open PySem PySem.Spec PyProof.Rows L2 Mi
theorem TS.new {K:ab} {C A:Addr} {F H:Hp} {w:Own} {a:aE} (t:TS K C F H A w a) {p:Addr} (hp:H p=none):F p=none∧p≠w.c∧p≠w.k∧p≠w.e∧p≠w.l :=
 ⟨same_none t.fh hp,fun e=>t.has (.inr (.inl rfl)) (e▸hp),fun e=>t.has (.inr (.inr (.inl rfl))) (e▸hp),fun e=>t.has (.inr (.inr (.inr (.inl rfl)))) (e▸hp),fun e=>t.has (.inr (.inr (.inr (.inr rfl)))) (e▸hp)⟩
section
variable {P:Program} {w:World} {K:ab} {mg:Str→Option Value} {base:Heap} {C:Addr} {k:Nat} {f:Addr} {fd:FuncData}
namespace Dtear
noncomputable def nN:List Str:=["town","cell","height"]
noncomputable def pP:List Str:=["town","cell"]
noncomputable abbrev sS:Stmt:=top 49
theorem sc:aS nN pP (aa sS):=⟨rfl,rfl,rfl,by decide +kernel,rfl,by decide +kernel,by decide +kernel⟩
noncomputable def iZ:Mr:=fun g xs=>let c:=xs.getD 0 0
 if g.n*g.n≤c then (g,aw (-22)) else if aA g.town c=0 then (g,aw (-2)) else ({ g with town:=g.town.set c 0 },aw (aA g.town c:Nat))
theorem ok (F:p6 K "answer_tear" "answer_tear" sS f fd) (W:Wd K mg C) (p:Ps ⟨P,w,K,mg,base,k⟩):eS P w K mg base iR (k+1) f fd pP (DR K C 1 iZ):=by
 refine F.ok sc (fun vs H Q E h=>?_) (fun ft A0 outer s H vs Q E hr h=>?_)
 ·obtain ⟨_,_,_,_,xs,rfl,p0,_⟩:=h
  show (vL xs).length+1=_
  rw [eK,p0];rfl
 ·obtain ⟨A,F0,ow,a,xs,rfl,p0,t,ok,q⟩:=h
  obtain ⟨c,rfl⟩:=Me p0
  have G:Good (iz iR P w K mg base nN "answer_tear" (aa sS) f ft A0 outer s H E).q5 k:=⟨hr,rfl,sc.nd,W.bl⟩
  refine ⟨_,aF (fS ((tG (N:=nN) (sc:=aa sS) (.not (.call "is_cell" h9 (x2 (.var 0) (.var 1)))) G rfl rfl)) (bw (b5 ((tH (N:=nN) (sc:=aa sS) (x1 Vx) G rfl rfl)))) c_)
   (aF (dh (i:=2) sc.nd rfl (Or.inl rfl) ((kE (N:=nN) (sc:=aa sS) (.ix (.fld (.var 0) "cells") (.var 1)) G rfl rfl)))
   (aF (fS ((tG (N:=nN) (sc:=aa sS) (.op .eq (.var 2) (.int 0)) G rfl rfl)) (bw (b5 ((tH (N:=nN) (sc:=aa sS) (x1 Vy) G rfl rfl)))) c_)
   (aF (Cp sA (Co (kg (pv 0) rfl) (pv 1) set_list))
   (bw (b5 ((tH (N:=nN) (sc:=aa sS) (x1 (.var 2)) G rfl rfl))))))),?_⟩
  have town:=ok.town
  have hz:(1:Nat)≤sizeLine:=by decide
  refine gJ (ρ:=[some (tD a.now),some (iN c),none]) (aB (t.den W.T ok) (aB (bR _) (ao aK))) (v7 (aM (ai (af rfl) (ai (af rfl) ay)) (sX ok))) fun H1 s1=>?_
  have t1:=t.same s1
  have ot:kD A F0 H ow F0 H1 ow:=kD.refl.same s1
  by_cases hb:a.now.n*a.now.n≤c
  ·rw [decide_eq_false (show ¬c < a.now.n*a.now.n by omega),Bool.not_false,if_pos rfl]
   have ee:iZ a.now [c]=(a.now,aw (-22)):=if_pos hb
   rw [ee] at q
   exact jI (ρ:=[none,none,none]) (ao (ao (ao aK))) (ai bZ ay) fun p vs H2 s2 np hp _ dl=>hE t1 ot s2 np hp dl rfl hz q
  ·rw [decide_eq_true (show c < a.now.n*a.now.n by omega),Bool.not_true,if_neg (by decide)]
   have hc:c < a.now.town.length:=by omega
   refine g0 (ρ:=[some (tD a.now),some (iN c),none]) (aB (t1.den W.T ok) (aB (bR _) (ao aK))) (eA (cq (af rfl) (eP a.now)) (af rfl) (jQ hc)) fun v H2 s2 dv=>?_
   obtain rfl:=bF dv
   have t2:=t1.same s2
   have rL:=ot.same s2
   have sl:∀{H3:Hp},Slots K H3 [some (.ref A),some (.int c),some (.int (a.now.town.getD c 0:Nat))] [none,some (iN c),some (iN (a.now.town.getD c 0))]:=ao (aB (bR _) (aB (bR _) aK))
   refine gJ sl (bx (af rfl) a_ (fT (b:=0))) fun H3 s3=>?_
   have t3:=t2.same s3
   have oP:=rL.same s3
   by_cases h0:aA a.now.town c=0
   ·rw [decide_eq_true (show a.now.town.getD c 0=0 from h0),if_pos rfl]
    have ee:iZ a.now [c]=(a.now,aw (-2)):=(if_neg hb).trans (if_pos h0)
    rw [ee] at q
    exact jI sl (ai bZ ay) fun p vs H4 s4 np hp _ dl=>hE t3 oP s4 np hp dl rfl hz q
   ·rw [decide_eq_false (show ¬a.now.town.getD c 0=0 from h0),if_neg (by decide)]
    obtain ⟨dx,gs,x1,x2,x3,x4⟩:=t3.ex
    refine ⟨_,rfl,A,C,dx,gs,.ref ow.c,rfl,x1,W.T.cl,W.T.cells,x3,_,rfl,ow.c,_,_,c,rfl,rfl,t3.hc,Fm hc,?_⟩
    have e0:(vL a.now.town).set c (.int 0)=vL (a.now.town.set c 0):=Di _ _ 0
    rw [e0]
    have t4:=t3.cells (a.now.town.set c 0)
    have vT:=oP.put (.inr (.inl rfl)) (.lst (vL (a.now.town.set c 0)))
    have ee:iZ a.now [c]=({ a.now with town:=a.now.town.set c 0 },aw (aA a.now.town c:Nat)):=(if_neg hb).trans (if_neg h0)
    rw [ee] at q
    exact jI sl (ai (af rfl) ay) fun p vs H4 s4 np hp _ dl=>hE t4 vT s4 np hp dl rfl hz q
end Dtear
namespace Dtell
noncomputable def nN:List Str:=["town","side","i","clue","before"]
noncomputable def pP:List Str:=["town","side","i","clue"]
noncomputable abbrev sS:Stmt:=top 50
theorem sc:aS nN pP (aa sS):=⟨rfl,rfl,rfl,by decide +kernel,rfl,by decide +kernel,by decide +kernel⟩
noncomputable def iZ:Mr:=fun g xs=>let c:=xs.getD 0 0;let i:=xs.getD 1 0;let v:=xs.getD 2 0
 if 3 < c∨g.n≤i∨g.n < v then (g,aw (-22)) else ({ g with clues:=gG g.clues c i v },aw (a8 g.clues c i:Nat))
theorem ok (F:p6 K "answer_tell" "answer_tell" sS f fd) (W:Wd K mg C) (p:Ps ⟨P,w,K,mg,base,k⟩):eS P w K mg base iR (k+1) f fd pP (DR K C 3 iZ):=by
 refine F.ok sc (fun vs H Q E h=>?_) (fun ft A0 outer s H vs Q E hr h=>?_)
 ·obtain ⟨_,_,_,_,xs,rfl,p0,_⟩:=h
  show (vL xs).length+1=_
  rw [eK,p0];rfl
 ·obtain ⟨A,F0,ow,a,xs,rfl,p0,t,ok,q⟩:=h
  obtain ⟨c,i,v,rfl⟩:=Vw p0
  have G:Good (iz iR P w K mg base nN "answer_tell" (aa sS) f ft A0 outer s H E).q5 k:=⟨hr,rfl,sc.nd,W.bl⟩
  refine ⟨_,aF (fS ((tG (N:=nN) (sc:=aa sS) (.or (x2 (.not (.call "is_line" iU (x3 (.var 0) (.var 1) (.var 2)))) (.op .gt (.var 3) (.fld (.var 0) "n")))) G rfl rfl)) (bw (b5 ((tH (N:=nN) (sc:=aa sS) (x1 Vx) G rfl rfl)))) c_)
   (aF (dh (i:=4) sc.nd rfl (Or.inl rfl) ((kE (N:=nN) (sc:=aa sS) (.call "line_clue" cb (x3 (.var 0) (.var 1) (.var 2))) G rfl rfl)))
   (aF (Cp (pv 3) (Co (kg (pv 0) rfl) ((kE (N:=nN) (sc:=aa sS) (.op .add (.op .mul (.var 1) (.fld (.var 0) "n")) (.var 2)) G rfl rfl)) set_list))
   (bw (b5 ((tH (N:=nN) (sc:=aa sS) (x1 (.var 4)) G rfl rfl)))))),?_⟩
  have hz:(1:Nat)≤sizeLine:=by decide
  have sl:∀{H1:Hp} {o:Option V},TS K C F0 H1 A ow a→Slots K H1 [some (.ref A),some (.int c),some (.int i),some (.int v),o] [some (tD a.now),some (iN c),some (iN i),some (iN v),none]:=fun t1=>aB (t1.den W.T ok) (aB (bR _) (aB (bR _) (aB (bR _) (ao aK))))
  refine gJ (sl t) (BU (v7 (aM (ai (af rfl) (ai (af rfl) (ai (af rfl) ay))) (yM ok))) (fun _=>bx (af rfl) (cq (af rfl) (gL a.now)) jD)) fun H1 s1=>?_
  have t1:=t.same s1
  have ot:kD A F0 H ow F0 H1 ow:=kD.refl.same s1
  by_cases hb:3 < c∨a.now.n≤i∨a.now.n < v
  ·have eb:((!(decide (c < 4)&&decide (i < a.now.n)))||decide (a.now.n < v))=true:=by simp only [cY,fA,lz,decide_eq_true_eq,decide_eq_false_iff_not];omega
   rw [eb,if_pos rfl]
   have ee:iZ a.now [c,i,v]=(a.now,aw (-22)):=if_pos hb
   rw [ee] at q
   exact jI (sl t1) (ai bZ ay) fun p vs H2 s2 np hp _ dl=>hE t1 ot s2 np hp dl rfl hz q
  ·have eb:((!(decide (c < 4)&&decide (i < a.now.n)))||decide (a.now.n < v))=false:=by
    rw [pL];simp only [ne_eq,cY,fA,lz,decide_eq_true_eq,decide_eq_false_iff_not];omega
   rw [eb,if_neg (by decide)]
   have hc:c < 4:=by omega
   have hi:i < a.now.n:=by omega
   refine g0 (sl t1) (aM (ai (af rfl) (ai (af rfl) (ai (af rfl) ay))) (eB ok hc hi)) fun u H2 s2 dv=>?_
   obtain rfl:=bF dv
   have t2:=t1.same s2
   have rL:=ot.same s2
   obtain ⟨dx,gs,x1,x2,x3,x4,x5⟩:=t2.ex
   refine ⟨_,rfl,_,rfl,A,C,dx,gs,.ref ow.k,rfl,x1,W.T.cl,W.T.clues,x4,?_⟩
   refine g0 (sl t2) (bx (bx (af rfl) (cq (af rfl) (gL a.now)) (qu (by omega))) (af rfl) eH) fun u H3 s3 dv=>?_
   obtain rfl:=bF dv
   have t3:=t2.same s3
   have oP:=rL.same s3
   have hx:c*a.now.n+i < a.now.clues.flatten.length:=(jh ok.row (by rw [ok.four];exact hc) hi).1
   refine ⟨ow.k,_,_,_,rfl,rfl,t3.hk,Fm hx,?_⟩
   rw [Di,←L_ ok hc hi]
   have t4:=t3.clues (gG a.now.clues c i v)
   have vT:=oP.put (.inr (.inr (.inl rfl))) (.lst (vL (gG a.now.clues c i v).flatten))
   have ee:iZ a.now [c,i,v]=({ a.now with clues:=gG a.now.clues c i v },aw (a8 a.now.clues c i:Nat)):=if_neg hb
   rw [ee] at q
   exact jI (ρ:=[none,none,none,none,some (iN (a8 a.now.clues c i))]) (ao (ao (ao (ao (aB (bR _) aK))))) (ai (af rfl) ay) fun p vs H4 s4 np hp _ dl=>hE t4 vT s4 np hp dl rfl hz q
end Dtell
namespace Dclear
noncomputable def nN:List Str:=["town","stood"]
noncomputable def pP:List Str:=["town"]
noncomputable abbrev sS:Stmt:=top 51
theorem sc:aS nN pP (aa sS):=⟨rfl,rfl,rfl,by decide +kernel,rfl,by decide +kernel,by decide +kernel⟩
noncomputable def iZ:Mr:=fun g _=>({ g with town:=g.town.map fun _=>0 },aw (aD g.town))
theorem ok (F:p6 K "answer_clear" "answer_clear" sS f fd) (W:Wd K mg C) (p:Ps ⟨P,w,K,mg,base,k⟩):eS P w K mg base iR (k+1) f fd pP (DR K C 0 iZ):=by
 refine F.ok sc (fun vs H Q E h=>?_) (fun ft A0 outer s H vs Q E hr h=>?_)
 ·obtain ⟨_,_,_,_,xs,rfl,p0,_⟩:=h
  show (vL xs).length+1=_
  rw [eK,p0];rfl
 ·obtain ⟨A,F0,ow,a,xs,rfl,p0,t,ok,q⟩:=h
  obtain rfl:=G2 p0
  have G:Good (iz iR P w K mg base nN "answer_clear" (aa sS) f ft A0 outer s H E).q5 k:=⟨hr,rfl,sc.nd,W.bl⟩
  refine ⟨_,aF (dh (i:=1) sc.nd rfl (Or.inl rfl) ((kE (N:=nN) (sc:=aa sS) (.call "count_towers" fM (x1 (.var 0))) G rfl rfl)))
   (aF (eR (pv 0) (ye Gi ((kE (N:=nN) (sc:=aa sS) (.lst (x1 (.int 0))) G rfl rfl)) ((kE (N:=nN) (sc:=aa sS) (.un .len (.fld (.var 0) "cells")) G rfl rfl))) rfl)
   (bw (b5 ((tH (N:=nN) (sc:=aa sS) (x1 (.var 1)) G rfl rfl))))),?_⟩
  obtain ⟨hl,_,_⟩:=ok.G3
  have hz:(1000:Nat)≤sizeLine:=by decide
  have sl:∀{H1:Hp} {o:Option V},TS K C F0 H1 A ow a→Slots K H1 [some (.ref A),o] [some (tD a.now),none]:=fun t1=>aB (t1.den W.T ok) (ao aK)
  refine g0 (sl t) (aM (ai (af rfl) ay) k8) fun u H1 s1 dv=>?_
  obtain rfl:=bF dv
  have t1:=t.same s1
  have ot:kD A F0 H ow F0 H1 ow:=kD.refl.same s1
  refine g0 (sl t1) (cE (ai a_ ay)) fun u H2 s2 dv=>?_
  obtain ⟨z,rfl,Vq⟩:=iK (l:=[0]) dv
  have t2:=t1.same s2
  refine g0 (sl t2) (fV (cq (af rfl) (eP a.now)) ig) fun u H3 s3 dv=>?_
  obtain rfl:=bF dv
  have t3:=t2.same s3
  have oP:=(ot.same s2).same s3
  refine ⟨z,_,_,rfl,rfl,s3 _ _ Vq,by omega,by omega,by rw [eK];show 1*_≤_;omega,fun p hp=>?_⟩
  have e0:(aH (a.now.town.length:Int).toNat (vL [0])).flatten=vL (a.now.town.map fun _=>0):=by
   rw [ja]
   show (aH a.now.town.length [V.int 0]).flatten=_
   rw [um]
   unfold vL
   rw [ba,←List.map_const']
   rfl
  rw [e0]
  have sp:=eF hp (.lst (vL (a.now.town.map fun _=>0)))
  have t4:=t3.same sp
  have vT:=oP.same sp
  obtain ⟨n1,n2,n3,n4,n5⟩:=t3.new hp
  obtain ⟨dx,gs,y1,y2,y3,y4,y5,y6,y7⟩:=t4.ex
  refine ⟨_,rfl,A,C,dx,gs,rfl,y1,W.T.cl,W.T.cells,by omega,?_⟩
  have t5:=t4.tu y1 (p:=p) (l:=a.now.town.map fun _=>0) aL n1 ⟨n3,n4,n5⟩
  have uN:=vT.fc (.inr (oP.Ad _ hp)) (.ins C dx (cW "cells" (.ref p) gs))
  exact jI (ρ:=[none,some (iN (aD a.now.town))]) (ao (aB (bR _) aK)) (ai (af rfl) ay) fun p vs H4 s4 np hp _ dl=>hE t5 uN s4 np hp dl rfl (by show 1≤_;omega) q
end Dclear
end
end Tn
namespace Tn
open PySem PySem.Spec PyProof.Rows L2 Mi
noncomputable def lim (H:Hp) (A:Addr) (w:Own):Hp:=fun b=>open Classical in if b=A∨b=w.c∨b=w.k then H b else none
section
variable {K:ab} {C A:Addr} {F H:Hp} {w:Own} {a:aE}
theorem qR:bW (lim H A w) H:=fun b o e=>by
 unfold lim at e
 split at e
 ·exact e
 ·cases e
theorem Ms {b:Addr} {o:HO} (h:lim H A w b=some o):b=A∨b=w.c∨b=w.k:=by
 unfold lim at h
 split at h
 ·assumption
 ·cases h
theorem TS.Oq (t:TS K C F H A w a) (c:pA K C) (ok:cP a.now):Den K (lim H A w) (tD a.now) (.ref A) :=
 t.Oo c ok (if_pos (.inl rfl)) (if_pos (.inr (.inl rfl))) (if_pos (.inr (.inr rfl)))
theorem uw (t:TS K C F H A w a) {F' H':Hp} (e:Ext (lim H A w) H F' H') {p:Addr} {l:List V} (h:F' p=some (.lst l)):H p=none∨p=w.c∨p=w.k:=by
 cases hp:H p with
 | none=>exact .inl rfl
 | some o =>
  cases hl:lim H A w p with
  | none=>rw [e.nw p hl (by rw [hp];exact fun z=>nomatch z)] at h;cases h
  | some o' =>
   rcases Ms hl with q|q|q
   ·subst q
    obtain ⟨dx,gs,h1,_⟩:=t.ex
    have h2:=e.fh _ _ h
    rw [e.hh _ _ h1] at h2
    cases h2
   ·exact .inr (.inl q)
   ·exact .inr (.inr q)
end
theorem Rn {a b:List Nat} (h:vL a=vL b):a=b:=by
 unfold vL at h
 refine map_inj (fun x y e=>?_) h
 have e:V.int x=V.int y:=e
 injection e with e
 omega
theorem Ro (l:List Nat):l.count 0+aD l=l.length:=by
 unfold aD
 induction l with
 | nil=>rfl
 | cons x l ih =>
  rw [Cd,c5,az]
  cases x with
  | zero=>simp;omega
  | succ x=>simp;omega
section
variable {P:Program} {w:World} {K:ab} {mg:Str→Option Value} {base:Heap} {C:Addr} {k:Nat} {f:Addr} {fd:FuncData}
namespace Dfill
noncomputable def nN:List Str:=["town","k","found","built"]
noncomputable def pP:List Str:=["town","k"]
noncomputable abbrev sS:Stmt:=top 52
theorem sc:aS nN pP (aa sS):=⟨rfl,rfl,rfl,by decide +kernel,rfl,by decide +kernel,by decide +kernel⟩
noncomputable def iZ:Mr:=fun g xs=>match (bb g)[xs.getD 0 0]? with
 | some l=>({ g with town:=l },aw ((g.n*g.n:Nat) - (aD g.town:Int)))
 | none=>(g,aw (-2))
theorem ok (F:p6 K "answer_fill" "answer_fill" sS f fd) (W:Wd K mg C) (p:Ps ⟨P,w,K,mg,base,k⟩):eS P w K mg base iR (k+1) f fd pP (DR K C 1 iZ):=by
 refine F.ok sc (fun vs H Q E h=>?_) (fun ft A0 outer s H vs Q E hr h=>?_)
 ·obtain ⟨_,_,_,_,xs,rfl,p0,_⟩:=h
  show (vL xs).length+1=_
  rw [eK,p0];rfl
 ·obtain ⟨A,F0,ow,a,xs,rfl,p0,t,ok,q⟩:=h
  obtain ⟨c,rfl⟩:=Me p0
  have G:Good (iz iR P w K mg base nN "answer_fill" (aa sS) f ft A0 outer s H E).q5 k:=⟨hr,rfl,sc.nd,W.bl⟩
  refine ⟨_,aF (dh (i:=2) sc.nd rfl (Or.inl rfl) ((kE (N:=nN) (sc:=aa sS) (.call "town_ways" dF (x1 (.var 0))) G rfl rfl)))
   (aF (fS ((tG (N:=nN) (sc:=aa sS) (.op .ge (.var 1) (.un .len (.var 2))) G rfl rfl)) (bw (b5 ((tH (N:=nN) (sc:=aa sS) (x1 Vy) G rfl rfl)))) c_)
   (aF (dh (i:=3) sc.nd rfl (Or.inl rfl) ((kE (N:=nN) (sc:=aa sS) (.cnt (.fld (.var 0) "cells") (.int 0)) G rfl rfl)))
   (aF (eR (pv 0) ((kE (N:=nN) (sc:=aa sS) (.ix (.var 2) (.var 1)) G rfl rfl)) rfl)
   (bw (b5 ((tH (N:=nN) (sc:=aa sS) (x1 (.var 3)) G rfl rfl))))))),?_⟩
  have hz:(1:Nat)≤sizeLine:=by decide
  refine ⟨lim H A ow,[some (tD a.now),none,none,none],_,qR,aB (t.Oq W.T ok) (ao (ao (ao aK))),aM (ai (af rfl) ay) (gb ok),fun v F1 H1 ex dv=>?_⟩
  have t1:=t.same ex.hh
  have ot:kD A F0 H ow F0 H1 ow:=kD.refl.same ex.hh
  have sl:∀{G H1:Hp} {o:Option V},bW F1 G→Slots K G [some (.ref A),some (.int c),some v,o] [none,some (iN c),some (iE (bb a.now)),none]:=fun sm=>ao (aB (bR _) (aB (cT sm _ _ dv) (ao aK)))
  refine gJ (sl (H1:=H1) ex.fh) (bx (af rfl) (fV (af rfl) jo) Pk) fun H2 s2=>?_
  have t2:=t1.same s2
  have rL:=ot.same s2
  by_cases hb:(bb a.now).length≤c
  ·rw [decide_eq_true hb,if_pos rfl]
   have ee:iZ a.now [c]=(a.now,aw (-2)):=by
    show (match (bb a.now)[c]? with|some l=>_|none=>_:ag×aW)=_
    rw [b0 hb]
   rw [ee] at q
   exact jI (sl (H1:=H2) (ex.fh.trans s2)) (ai bZ ay) fun p vs H2 s2 np hp _ dl=>hE t2 rL s2 np hp dl rfl hz q
  ·rw [decide_eq_false hb,if_neg (by decide)]
   obtain ⟨wy,hw⟩:∃wy,(bb a.now)[c]?=some wy:=⟨_,au (by omega)⟩
   have hwm:=b7 hw
   have ee:iZ a.now [c]=({ a.now with town:=wy },aw ((a.now.n*a.now.n:Nat) - (aD a.now.town:Int))):=by
    show (match (bb a.now)[c]? with|some l=>_|none=>_:ag×aW)=_
    rw [hw]
   rw [ee] at q
   refine g0 (ρ:=[some (tD a.now),none,none,none]) (aB (t2.den W.T ok) (ao (ao (ao aK)))) (Pg (cq (af rfl) (eP a.now)) a_ (LM (h:=0))) fun u H3 s3 du=>?_
   obtain rfl:=bF du
   have t3:=t2.same s3
   have oP:=rL.same s3
   refine ⟨F1,_,_,(ex.fh.trans s2).trans s3,sl (H1:=H3) (same_refl F1),eA (af rfl) (af rfl) (CU hw),fun u F2 H4 jb du=>?_⟩
   obtain ⟨p,rfl,IH⟩:=iK du
   have t4:=t3.same jb.hh
   have vT:=oP.same jb.hh
   have hp:H4 p=some (.lst (vL wy)):=jb.fh _ _ IH
   have M6:H p=none∨p=ow.c:=by
    have h1:H p=none∨p=ow.c∨p=ow.k:=by
     cases hh:H p with
     | none=>exact .inl rfl
     | some o =>
      have h3:H3 p≠none:=by rw [s3 _ _ (s2 _ _ (ex.hh _ _ hh))];exact fun z=>nomatch z
      cases hf:F1 p with
      | none=>rw [jb.nw p hf h3] at IH;cases IH
      | some o' =>
       have h4:=jb.ff _ _ hf
       rw [IH] at h4
       cases h4
       rcases uw t ex hf with e|e|e
       ·rw [e] at hh;cases hh
       ·exact .inr (.inl e)
       ·exact .inr (.inr e)
    rcases h1 with e|e|e
    ·exact .inl e
    ·exact .inr e
    ·exfalso
     subst e
     have:=t4.hk
     rw [hp] at this
     injection this with this
     injection this with this
     exact JR ok hwm (Rn this)
   have Pq:F0 p=none∧p≠ow.k∧p≠ow.e∧p≠ow.l:=by
    rcases M6 with e|e
    ·obtain ⟨n1,n2,n3,n4,n5⟩:=t.new e
     exact ⟨n1,n3,n4,n5⟩
    ·subst e
     exact ⟨t.nf _ (.inr (.inl rfl)),t.ap.ck,t.ap.ce,t.ap.cl⟩
   obtain ⟨dx,gs,y1,y2,y3,y4,y5,y6,y7⟩:=t4.ex
   refine ⟨_,rfl,A,C,dx,gs,rfl,y1,W.T.cl,W.T.cells,by omega,?_⟩
   have t5:=t4.tu y1 hp Pq.1 Pq.2
   have uN:=vT.fc (p:=p) (M6.elim .inr fun e=>.inl (.inr (.inl e))) (.ins C dx (cW "cells" (.ref p) gs))
   refine jI (ρ:=[none,none,none,some (iN (a.now.town.count 0))]) (ao (ao (ao (aB (bR _) aK)))) (ai (af rfl) ay) fun p vs H4 s4 np hp _ dl=>hE t5 uN s4 np hp dl ?_ hz q
   have:=Ro a.now.town
   have ht:=ok.town
   show [iN (a.now.town.count 0)]=[D.int ((a.now.n*a.now.n:Nat) - (aD a.now.town:Int))]
   unfold iN
   congr 2
   omega
end Dfill
noncomputable def XH (K:ab) (C:Addr):Sp:=fun vs H Q _=>∃(A:Addr) (F:Hp) (w:Own) (a:aE),vs=[.ref A]∧TS K C F H A w a∧cP a.now∧∀p H',bW H H'→H p=none→H' p=some (.lst (vL (cz a.now).flatten))→Q (.ref p) H'
namespace Dviews
noncomputable def nN:List Str:=["town","views","side","i"]
noncomputable def pP:List Str:=["town"]
noncomputable abbrev sS:Stmt:=top 60
theorem sc:aS nN pP (aa sS):=⟨rfl,rfl,rfl,by decide +kernel,rfl,by decide +kernel,by decide +kernel⟩
theorem ok (F:p6 K "town_views" "town_views" sS f fd) (W:Wd K mg C) (p:Ps ⟨P,w,K,mg,base,k⟩):eS P w K mg base iR (k+1) f fd pP (XH K C):=by
 refine F.ok sc (fun vs H Q E h=>?_) (fun ft A0 outer s H vs Q E hr h=>?_)
 ·obtain ⟨_,_,_,_,rfl,_⟩:=h
  rfl
 ·obtain ⟨A,F0,ow,a,rfl,t,ok,q⟩:=h
  have G:Good (iz iR P w K mg base nN "town_views" (aa sS) f ft A0 outer s H E).q5 k:=⟨hr,rfl,sc.nd,W.bl⟩
  refine ⟨_,aF (XE (N:=nN) (sc:=aa sS) (.own 1 (.lst .nil) []) G (fun _=>rfl) PassesOwn.never rfl rfl (by simp only [dz,cD,iA,il,hZ,cZ,and_true,true_and,and_self]<;>(repeat' apply And.intro)<;>first|assumption|exact W.fm|exact W.eJ|exact W.dN|exact W.gD|exact W.gh|exact W.jl|exact W.gQ|exact W.js|exact W.dO|exact W.jy|exact W.lq|exact W.lr|exact W.mN|exact W.j7|exact W.dP|exact W.fF|exact W.lu|exact W.wO|exact W.dU|exact W.iM|exact W.oe|exact W.og|exact W.si|exact W.sj|exact W.Mp|exact W.qK|exact W.qL|exact W.mO|exact W.qM|exact W.mP|exact W.zo|exact W.qN|exact W.mQ|exact W.mR|exact W.qO|exact W.qP|exact W.oh|exact W.sk|exact W.oi|exact W.mS|exact W.oj|exact W.AO|exact W.so|exact W.kP|exact W.qQ|exact W.sq|exact W.om|exact W.Pp|exact p.jt|exact p.ju|exact p.fZ|exact p.dG|exact p.gR|exact p.eU|exact p.dj|exact p.f6|exact p.dW|exact p.eV|exact p.g9|exact p.eW|exact p.eX|exact p.dX|exact p.eY|exact p.eZ|exact p.g_|exact p.hC|exact p.fG) (by decide +kernel)) (aF (XE (N:=nN) (sc:=aa sS) j3 G (fun _=>rfl) PassesOwn.never rfl rfl (by unfold j3 gY;simp only [dz,cD,iA,il,hZ,cZ,and_true,true_and,and_self]<;>(repeat' apply And.intro)<;>first|assumption|exact W.fm|exact W.eJ|exact W.dN|exact W.gD|exact W.gh|exact W.jl|exact W.gQ|exact W.js|exact W.dO|exact W.jy|exact W.lq|exact W.lr|exact W.mN|exact W.j7|exact W.dP|exact W.fF|exact W.lu|exact W.wO|exact W.dU|exact W.iM|exact W.oe|exact W.og|exact W.si|exact W.sj|exact W.Mp|exact W.qK|exact W.qL|exact W.mO|exact W.qM|exact W.mP|exact W.zo|exact W.qN|exact W.mQ|exact W.mR|exact W.qO|exact W.qP|exact W.oh|exact W.sk|exact W.oi|exact W.mS|exact W.oj|exact W.AO|exact W.so|exact W.kP|exact W.qQ|exact W.sq|exact W.om|exact W.Pp|exact p.jt|exact p.ju|exact p.fZ|exact p.dG|exact p.gR|exact p.eU|exact p.dj|exact p.f6|exact p.dW|exact p.eV|exact p.g9|exact p.eW|exact p.eX|exact p.dX|exact p.eY|exact p.eZ|exact p.g_|exact p.hC|exact p.fG) (by decide +kernel)) (bw (b5 (pv 1)))),?_⟩
  obtain ⟨x,hx⟩:=B2 ok
  refine ⟨H,H,H,[.fz (tD a.now),.no,.no,.no],.nx [.fz (tD a.now),.ow [],.no,.no],u9 (ds:=[tD a.now]) (same_refl H) (bD (t.den W.T ok) bX),by simp only [uI,bH,kj,bz,Mi.listOf];rfl,fun F1 H1 OQ _ S1=>⟨H,H,F1,_,_,S1,hx,fun F' H' fJ _ S=>?_⟩⟩
  obtain ⟨p,vs,h1,h2,_,h4,_,h6⟩:=S.ow 1 _ rfl
  rw [qJ h6] at h4
  exact ⟨_,h1,q p H' S.ext.hh h2 h4⟩
end Dviews
namespace Dask
noncomputable def nN:List Str:=["town"]
noncomputable abbrev sS:Stmt:=top 59
theorem sc:aS nN nN (aa sS):=⟨rfl,rfl,rfl,by decide +kernel,rfl,by decide +kernel,by decide +kernel⟩
noncomputable def iZ:Mr:=fun g _=>if gF g=true then ({ g with clues:=cz g },aw (4*g.n:Nat)) else (g,aw (-12))
theorem ok (F:p6 K "answer_ask" "answer_ask" sS f fd) (W:Wd K mg C) (p:Ps ⟨P,w,K,mg,base,k⟩) (hv:rB ⟨P,w,K,mg,base,k⟩ "town_views" ["town"] (XH K C)):eS P w K mg base iR (k+1) f fd nN (DR K C 0 iZ):=by
 refine F.ok sc (fun vs H Q E h=>?_) (fun ft A0 outer s H vs Q E hr h=>?_)
 ·obtain ⟨_,_,_,_,xs,rfl,p0,_⟩:=h
  show (vL xs).length+1=_
  rw [eK,p0];rfl
 ·obtain ⟨A,F0,ow,a,xs,rfl,p0,t,ok,q⟩:=h
  obtain rfl:=G2 p0
  have G:Good (iz iR P w K mg base nN "answer_ask" (aa sS) f ft A0 outer s H E).q5 k:=⟨hr,rfl,sc.nd,W.bl⟩
  refine ⟨_,aF (fS ((tG (N:=nN) (sc:=aa sS) (.op .isin (.int 0) (.fld (.var 0) "cells")) G rfl rfl)) (bw (b5 ((tH (N:=nN) (sc:=aa sS) (x1 (.gl "NO_TOWER" (.int (-12)))) G rfl rfl)))) c_)
   (aF (eR (pv 0) ((hc (sc:=aa sS) (k:=k) hv G rfl (by decide +kernel) (br (pv 0) cw) rfl rfl)) rfl)
   (bw (b5 ((tH (N:=nN) (sc:=aa sS) (x1 (.un .len (.fld (.var 0) "clues"))) G rfl rfl))))),?_⟩
  have hz:(1:Nat)≤sizeLine:=by decide
  refine gJ (ρ:=[some (tD a.now)]) (aB (t.den W.T ok) aK) (bx a_ (cq (af rfl) (eP a.now)) (Lz (x:=0))) fun H1 s1=>?_
  have t1:=t.same s1
  have ot:kD A F0 H ow F0 H1 ow:=kD.refl.same s1
  have hf:=Fb a.now
  by_cases hb:0∈a.now.town
  ·rw [decide_eq_true hb,if_pos rfl]
   rw [decide_eq_true hb] at hf
   have ee:iZ a.now []=(a.now,aw (-12)):=if_neg (by rw [hf];decide)
   rw [ee] at q
   exact jI (ρ:=[none]) (ao aK) (ai bZ ay) fun p vs H2 s2 np hp _ dl=>hE t1 ot s2 np hp dl rfl hz q
  ·rw [decide_eq_false hb,if_neg (by decide)]
   rw [decide_eq_false hb] at hf
   have ee:iZ a.now []=({ a.now with clues:=cz a.now },aw (4*a.now.n:Nat)):=if_pos (by rw [hf];rfl)
   rw [ee] at q
   refine ⟨_,rfl,A,F0,ow,a,rfl,t1,ok,fun p H2 s2 np hp=>?_⟩
   have t2:=t1.same s2
   have rL:=ot.same s2
   obtain ⟨n1,n2,n3,n4,n5⟩:=t1.new np
   obtain ⟨dx,gs,y1,y2,y3,y4,y5,y6,y7⟩:=t2.ex
   refine ⟨_,rfl,A,C,dx,gs,rfl,y1,W.T.cl,W.T.clues,by omega,?_⟩
   have t3:=t2.vF y1 hp n1 ⟨n2,n4,n5⟩
   have oP:=rL.fk (p:=p) (.inr (ot.Ad _ np)) (.ins C dx (cW "clues" (.ref p) gs))
   have o3:=IE ok
   have el:vU .len (iL (cz a.now).flatten)=some (iN (4*a.now.n)):=by rw [ig,B3]
   exact jI (ρ:=[some (tD { a.now with clues:=cz a.now })]) (aB (t3.den W.T o3) aK) (ai (fV (cq (af rfl) (oG _)) el) ay) fun p vs H2 s2 np hp _ dl=>hE t3 oP s2 np hp dl rfl hz q
end Dask
theorem UC {a b c d:List Nat} (h:a.length+b.length+c.length+d.length≤900) {e1 e2 e3:E} {ρ:eM} (h1:bH e1 ρ=some (iL a)) (h2:bH e2 ρ=some (iL b)) (h3:bH e3 ρ=some (iL c)):bH (.op .add (.op .add e1 e2) e3) ρ=some (iL (a++b++c)) :=
 bx (bx h1 h2 (mx (by omega))) h3 (mx (by rw [ax];omega))
theorem zp (g:ag) (j:Nat):(dM g j).length=g.n:=by unfold dM;rw [ah,aQ]
noncomputable abbrev Pr (x:Str) (j:Nat):E:=.call "side_clues" j4 (x2 (.var 0) (.gl x (.int j)))
namespace Dturn
noncomputable def nN:List Str:=["town","cells","above","below"]
noncomputable def pP:List Str:=["town"]
noncomputable abbrev sS:Stmt:=top 94
theorem sc:aS nN pP (aa sS):=⟨rfl,rfl,rfl,by decide +kernel,rfl,by decide +kernel,by decide +kernel⟩
noncomputable def iZ:Mr:=fun g _=>(⟨g.n,Aa g.n g.town,fq g.n g.clues⟩,aw 0)
theorem ok (F:p6 K "answer_turn" "answer_turn" sS f fd) (W:Wd K mg C) (p:Ps ⟨P,w,K,mg,base,k⟩):eS P w K mg base iR (k+1) f fd pP (DR K C 0 iZ):=by
 refine F.ok sc (fun vs H Q E h=>?_) (fun ft A0 outer s H vs Q E hr h=>?_)
 ·obtain ⟨_,_,_,_,xs,rfl,p0,_⟩:=h
  show (vL xs).length+1=_
  rw [eK,p0];rfl
 ·obtain ⟨A,F0,ow,a,xs,rfl,p0,t,ok,q⟩:=h
  obtain rfl:=G2 p0
  have G:Good (iz iR P w K mg base nN "answer_turn" (aa sS) f ft A0 outer s H E).q5 k:=⟨hr,rfl,sc.nd,W.bl⟩
  refine ⟨_,aF (dh (i:=1) sc.nd rfl (Or.inl rfl) ((kE (N:=nN) (sc:=aa sS) (.call "towers_from" ia (x2 (.var 0) (.gl "BELOW" (.int 2)))) G rfl rfl)))
   (aF (dh (i:=2) sc.nd rfl (Or.inl rfl) ((kE (N:=nN) (sc:=aa sS) (.un .rev (Pr "LEFT" 3)) G rfl rfl)))
   (aF (dh (i:=3) sc.nd rfl (Or.inl rfl) ((kE (N:=nN) (sc:=aa sS) (.un .rev (Pr "RIGHT" 1)) G rfl rfl)))
   (aF (eR (pv 0) (ye Cw ((kE (N:=nN) (sc:=aa sS) (.op .add (.op .add (.var 2) (Pr "ABOVE" 0)) (.var 3)) G rfl rfl)) ((kE (N:=nN) (sc:=aa sS) (Pr "BELOW" 2) G rfl rfl))) rfl)
   (aF (eR (pv 0) (pv 1) rfl)
   (bw (b5 ((tH (N:=nN) (sc:=aa sS) (x1 (.int 0)) G rfl rfl)))))))),?_⟩
  have hn:=ok.hi
  have hz:(1000:Nat)≤sizeLine:=by decide
  refine ⟨lim H A ow,[some (tD a.now),none,none,none],_,qR,aB (t.Oq W.T ok) (ao (ao (ao aK))),aM (ai (af rfl) (ai bZ ay)) (qG (k:=2) ok),fun v F1 H1 ex dv=>?_⟩
  obtain ⟨p,rfl,Pt⟩:=iK dv
  have t1:=t.same ex.hh
  have ot:kD A F0 H ow F0 H1 ow:=kD.refl.same ex.hh
  have M6:=uw t ex Pt
  have sl:∀{H2:Hp} {u v:Option V} {x y:Option D},TS K C F0 H2 A ow a→Slots K H2 [u,v] [x,y]→Slots K H2 [some (.ref A),some (.ref p),u,v] [some (tD a.now),none,x,y]:=fun t2 h=>aB (t2.den W.T ok) (ao h)
  refine g0 (sl t1 (x:=none) (y:=none) (ao (ao aK))) (fV (aM (ai (af rfl) (ai bZ ay)) (fB (k:=3) ok (by decide))) vd) fun v2 H2 s2 d2=>?_
  have t2:=t1.same s2
  refine g0 (sl t2 (x:=none) (y:=none) (ao (ao aK))) (fV (aM (ai (af rfl) (ai bZ ay)) (fB (k:=1) ok (by decide))) vd) fun v3 H3 s3 d3=>?_
  have t3:=t2.same s3
  have hl:∀j,(dM a.now j).length=a.now.n:=zp a.now
  refine g0 (sl t3 (aB (cT s3 _ _ d2) (aB d3 aK))) (UC (d:=[]) (by rw [a9,a9,hl,hl,hl];show _+0≤900;omega) (af rfl) (aM (ai (af rfl) (ai bZ ay)) (fB (k:=0) ok (by decide))) (af rfl)) fun v4 H4 s4 d4=>?_
  obtain ⟨p4,rfl,h4⟩:=iK d4
  have t4:=t3.same s4
  refine g0 (sl t4 (x:=none) (y:=none) (ao (ao aK))) (aM (ai (af rfl) (ai bZ ay)) (fB (k:=2) ok (by decide))) fun v5 H5 s5 d5=>?_
  obtain ⟨p5,rfl,h5⟩:=iK d5
  have t5:=t4.same s5
  have uN:=(((ot.same s2).same s3).same s4).same s5
  refine ⟨p4,p5,_,_,rfl,rfl,s5 _ _ h4,h5,by rw [eK,eK,ax,ax,a9,a9,hl,hl,hl,hl];omega,fun z nz=>?_⟩
  have ec:vL ((dM a.now 3).reverse++dM a.now 0++(dM a.now 1).reverse)++vL (dM a.now 2)=vL (fq a.now.n a.now.clues).flatten:=by
   rw [G0 hn];unfold vL;rw [←bq]
  rw [ec]
  have sz:=eF nz (.lst (vL (fq a.now.n a.now.clues).flatten))
  have t6:=t5.same sz
  have II:=uN.same sz
  obtain ⟨n1,n2,n3,n4,n5⟩:=t5.new nz
  obtain ⟨dx,gs,y1,y2,y3,y4,y5,y6,y7⟩:=t6.ex
  refine ⟨_,rfl,A,C,dx,gs,rfl,y1,W.T.cl,W.T.clues,by omega,?_⟩
  have t7:=t6.vF y1 aL n1 ⟨n2,n4,n5⟩
  have Gk:=II.fk (p:=z) (.inr (uN.Ad _ nz)) (.ins C dx (cW "clues" (.ref z) gs))
  have hp:H5 p=some (.lst (vL (oN a.now 2))):=s5 _ _ (s4 _ _ (s3 _ _ (s2 _ _ (ex.fh _ _ Pt))))
  have Pq:F0 p=none∧p≠z∧p≠ow.e∧p≠ow.l:=by
   have Rp:p≠z:=fun e=>by rw [e,nz] at hp;cases hp
   rcases M6 with e|e|e
   ·obtain ⟨m1,m2,m3,m4,m5⟩:=t.new e
    exact ⟨m1,Rp,m4,m5⟩
   ·exact ⟨e▸t.nf _ (.inr (.inl rfl)),Rp,e▸t.ap.ce,e▸t.ap.cl⟩
   ·exact ⟨e▸t.nf _ (.inr (.inr (.inl rfl))),Rp,e▸t.ap.ke,e▸t.ap.kl⟩
  obtain ⟨Mn,Mo,w1,w2,w3,w4,w5,w6,w7⟩:=t7.ex
  refine ⟨_,rfl,_,rfl,A,C,Mn,Mo,rfl,w1,W.T.cl,W.T.cells,by omega,?_⟩
  have XI:upd (upd H5 z (.lst (vL (fq a.now.n a.now.clues).flatten))) A (.ins C dx (cW "clues" (.ref z) gs)) p=some (.lst (vL (oN a.now 2))):=by
   rw [aN (ox (sz _ _ hp) y1 fun e=>nomatch e)]
   exact sz _ _ hp
  have t8:=t7.tu w1 XI Pq.1 Pq.2
  have Pu:=Gk.fc (p:=p) (M6.elim .inr fun e=>.inl (e.elim (fun e=>.inr (.inl e)) fun e=>.inr (.inr (.inl e)))) (.ins C Mn (cW "cells" (.ref p) Mo))
  have ee:(iZ a.now []).1={ { a.now with clues:=fq a.now.n a.now.clues } with town:=oN a.now 2 }:=by
   rw [←JQ];rfl
  rw [ee] at q
  exact jI (ρ:=[none,none,none,none]) (ao (ao (ao (ao aK)))) (ai a_ ay) fun p vs H4 s4 np hp _ dl=>hE t8 Pu s4 np hp dl rfl (by show 1≤_;omega) q
end Dturn
namespace Dmirror
noncomputable def nN:List Str:=["town","cells","above","below"]
noncomputable def pP:List Str:=["town"]
noncomputable abbrev sS:Stmt:=top 95
theorem sc:aS nN pP (aa sS):=⟨rfl,rfl,rfl,by decide +kernel,rfl,by decide +kernel,by decide +kernel⟩
noncomputable def iZ:Mr:=fun g _=>(⟨g.n,vQ g.n g.town,d8 g.n g.clues⟩,aw 0)
theorem ok (F:p6 K "answer_mirror" "answer_mirror" sS f fd) (W:Wd K mg C) (p:Ps ⟨P,w,K,mg,base,k⟩):eS P w K mg base iR (k+1) f fd pP (DR K C 0 iZ):=by
 refine F.ok sc (fun vs H Q E h=>?_) (fun ft A0 outer s H vs Q E hr h=>?_)
 ·obtain ⟨_,_,_,_,xs,rfl,p0,_⟩:=h
  show (vL xs).length+1=_
  rw [eK,p0];rfl
 ·obtain ⟨A,F0,ow,a,xs,rfl,p0,t,ok,q⟩:=h
  obtain rfl:=G2 p0
  have G:Good (iz iR P w K mg base nN "answer_mirror" (aa sS) f ft A0 outer s H E).q5 k:=⟨hr,rfl,sc.nd,W.bl⟩
  refine ⟨_,aF (dh (i:=1) sc.nd rfl (Or.inl rfl) ((kE (N:=nN) (sc:=aa sS) (.call "towers_from" ia (x2 (.var 0) (.gl "RIGHT" (.int 1)))) G rfl rfl)))
   (aF (dh (i:=2) sc.nd rfl (Or.inl rfl) ((kE (N:=nN) (sc:=aa sS) (.un .rev (Pr "ABOVE" 0)) G rfl rfl)))
   (aF (dh (i:=3) sc.nd rfl (Or.inl rfl) ((kE (N:=nN) (sc:=aa sS) (.un .rev (Pr "BELOW" 2)) G rfl rfl)))
   (aF (eR (pv 0) (ye Cw ((kE (N:=nN) (sc:=aa sS) (.op .add (.op .add (.var 2) (Pr "LEFT" 3)) (.var 3)) G rfl rfl)) ((kE (N:=nN) (sc:=aa sS) (Pr "RIGHT" 1) G rfl rfl))) rfl)
   (aF (eR (pv 0) (pv 1) rfl)
   (bw (b5 ((tH (N:=nN) (sc:=aa sS) (x1 (.int 0)) G rfl rfl)))))))),?_⟩
  have hn:=ok.hi
  have hz:(1000:Nat)≤sizeLine:=by decide
  refine ⟨lim H A ow,[some (tD a.now),none,none,none],_,qR,aB (t.Oq W.T ok) (ao (ao (ao aK))),aM (ai (af rfl) (ai bZ ay)) (qG (k:=1) ok),fun v F1 H1 ex dv=>?_⟩
  obtain ⟨p,rfl,Pt⟩:=iK dv
  have t1:=t.same ex.hh
  have ot:kD A F0 H ow F0 H1 ow:=kD.refl.same ex.hh
  have M6:=uw t ex Pt
  have sl:∀{H2:Hp} {u v:Option V} {x y:Option D},TS K C F0 H2 A ow a→Slots K H2 [u,v] [x,y]→Slots K H2 [some (.ref A),some (.ref p),u,v] [some (tD a.now),none,x,y]:=fun t2 h=>aB (t2.den W.T ok) (ao h)
  refine g0 (sl t1 (x:=none) (y:=none) (ao (ao aK))) (fV (aM (ai (af rfl) (ai bZ ay)) (fB (k:=0) ok (by decide))) vd) fun v2 H2 s2 d2=>?_
  have t2:=t1.same s2
  refine g0 (sl t2 (x:=none) (y:=none) (ao (ao aK))) (fV (aM (ai (af rfl) (ai bZ ay)) (fB (k:=2) ok (by decide))) vd) fun v3 H3 s3 d3=>?_
  have t3:=t2.same s3
  have hl:∀j,(dM a.now j).length=a.now.n:=zp a.now
  refine g0 (sl t3 (aB (cT s3 _ _ d2) (aB d3 aK))) (UC (d:=[]) (by rw [a9,a9,hl,hl,hl];show _+0≤900;omega) (af rfl) (aM (ai (af rfl) (ai bZ ay)) (fB (k:=3) ok (by decide))) (af rfl)) fun v4 H4 s4 d4=>?_
  obtain ⟨p4,rfl,h4⟩:=iK d4
  have t4:=t3.same s4
  refine g0 (sl t4 (x:=none) (y:=none) (ao (ao aK))) (aM (ai (af rfl) (ai bZ ay)) (fB (k:=1) ok (by decide))) fun v5 H5 s5 d5=>?_
  obtain ⟨p5,rfl,h5⟩:=iK d5
  have t5:=t4.same s5
  have uN:=(((ot.same s2).same s3).same s4).same s5
  refine ⟨p4,p5,_,_,rfl,rfl,s5 _ _ h4,h5,by rw [eK,eK,ax,ax,a9,a9,hl,hl,hl,hl];omega,fun z nz=>?_⟩
  have ec:vL ((dM a.now 0).reverse++dM a.now 3++(dM a.now 2).reverse)++vL (dM a.now 1)=vL (d8 a.now.n a.now.clues).flatten:=by
   rw [De hn];unfold vL;rw [←bq]
  rw [ec]
  have sz:=eF nz (.lst (vL (d8 a.now.n a.now.clues).flatten))
  have t6:=t5.same sz
  have II:=uN.same sz
  obtain ⟨n1,n2,n3,n4,n5⟩:=t5.new nz
  obtain ⟨dx,gs,y1,y2,y3,y4,y5,y6,y7⟩:=t6.ex
  refine ⟨_,rfl,A,C,dx,gs,rfl,y1,W.T.cl,W.T.clues,by omega,?_⟩
  have t7:=t6.vF y1 aL n1 ⟨n2,n4,n5⟩
  have Gk:=II.fk (p:=z) (.inr (uN.Ad _ nz)) (.ins C dx (cW "clues" (.ref z) gs))
  have hp:H5 p=some (.lst (vL (oN a.now 1))):=s5 _ _ (s4 _ _ (s3 _ _ (s2 _ _ (ex.fh _ _ Pt))))
  have Pq:F0 p=none∧p≠z∧p≠ow.e∧p≠ow.l:=by
   have Rp:p≠z:=fun e=>by rw [e,nz] at hp;cases hp
   rcases M6 with e|e|e
   ·obtain ⟨m1,m2,m3,m4,m5⟩:=t.new e
    exact ⟨m1,Rp,m4,m5⟩
   ·exact ⟨e▸t.nf _ (.inr (.inl rfl)),Rp,e▸t.ap.ce,e▸t.ap.cl⟩
   ·exact ⟨e▸t.nf _ (.inr (.inr (.inl rfl))),Rp,e▸t.ap.ke,e▸t.ap.kl⟩
  obtain ⟨Mn,Mo,w1,w2,w3,w4,w5,w6,w7⟩:=t7.ex
  refine ⟨_,rfl,_,rfl,A,C,Mn,Mo,rfl,w1,W.T.cl,W.T.cells,by omega,?_⟩
  have XI:upd (upd H5 z (.lst (vL (d8 a.now.n a.now.clues).flatten))) A (.ins C dx (cW "clues" (.ref z) gs)) p=some (.lst (vL (oN a.now 1))):=by
   rw [aN (ox (sz _ _ hp) y1 fun e=>nomatch e)]
   exact sz _ _ hp
  have t8:=t7.tu w1 XI Pq.1 Pq.2
  have Pu:=Gk.fc (p:=p) (M6.elim .inr fun e=>.inl (e.elim (fun e=>.inr (.inl e)) fun e=>.inr (.inr (.inl e)))) (.ins C Mn (cW "cells" (.ref p) Mo))
  have ee:(iZ a.now []).1={ { a.now with clues:=d8 a.now.n a.now.clues } with town:=oN a.now 1 }:=by
   rw [←Fh];rfl
  rw [ee] at q
  exact jI (ρ:=[none,none,none,none]) (ao (ao (ao (ao aK)))) (ai a_ ay) fun p vs H4 s4 np hp _ dl=>hE t8 Pu s4 np hp dl rfl (by show 1≤_;omega) q
end Dmirror
end
end Tn
namespace Tn
open PySem PySem.Spec PyProof.Rows L2 Mi
theorem Dj {K:ab} {H:Hp} {p:Addr} {r:aW} (h:H p=some (.lst (aV r))) (hz:r.out.length≤900):Den K H (dq r) (.ref p) :=
 gA (by rw [az,ah];exact aP (show _+1≤1000 by omega) (by decide)) h (Dh r)
theorem ux {K:ab} {H:Hp} {r:aW} {v:V} (h:Den K H (dq r) v):∃p,v=.ref p∧H p=some (.lst (aV r)):=by
 obtain ⟨_,p,vs,rfl,h1,h2⟩:=dd h
 rw [Mq h2] at h1
 exact ⟨p,rfl,h1⟩
noncomputable def gM (g:ag):aW:=told g .hint
theorem IJ {g:ag} (h:(gM g).ret < 0):(fg g.n g.town g.clues=true∨fW g.n g.town g.clues=none)∧gM g=(if fg g.n g.town g.clues=true then aw (-33) else aw (-6)):=by
 unfold gM at h ⊢
 rw [rA] at h ⊢
 by_cases hs:fg g.n g.town g.clues=true
 ·rw [if_pos hs,if_pos hs]
  exact ⟨.inl hs,rfl⟩
 ·rw [if_neg hs] at h ⊢
  rw [if_neg hs]
  cases hh:fW g.n g.town g.clues with
  | none=>exact ⟨.inr rfl,rfl⟩
  | some x =>
   rw [hh] at h
   have h:((x.1:Nat):Int) < 0:=h
   omega
theorem Fn {g:ag} (h:0≤(gM g).ret):∃x,fg g.n g.town g.clues=false∧fW g.n g.town g.clues=some x∧gM g=⟨x.1,[x.2]⟩:=by
 unfold gM at h ⊢
 rw [rA] at h ⊢
 by_cases hs:fg g.n g.town g.clues=true
 ·rw [if_pos hs] at h
  exact absurd h (by decide)
 ·rw [if_neg hs] at h ⊢
  cases hh:fW g.n g.town g.clues with
  | none=>rw [hh] at h;exact absurd h (by decide)
  | some x=>exact ⟨x,by cases h2:fg g.n g.town g.clues with|true=>exact absurd h2 hs|false=>rfl,rfl,rfl⟩
theorem B7 (g:ag):(gM g).out.length≤900:=by
 unfold gM
 rw [rA]
 split
 ·exact c8 _
 ·split
  ·show 1≤900;decide
  ·exact c8 _
section
variable {P:Program} {w:World} {K:ab} {mg:Str→Option Value} {base:Heap} {C:Addr} {k:Nat} {f:Addr} {fd:FuncData}
namespace Dsolve
noncomputable def nN:List Str:=["town","hint","built"]
noncomputable def pP:List Str:=["town"]
noncomputable abbrev sS:Stmt:=top 36
theorem sc:aS nN pP (aa sS):=⟨rfl,rfl,rfl,by decide +kernel,rfl,by decide +kernel,by decide +kernel⟩
noncomputable def iZ:Mr:=fun g _=>if (gM g).ret < 0 then (g,gM g) else ({ g with town:=dH g.n g.clues (g.n*g.n) g.town },aw ((aD (dH g.n g.clues (g.n*g.n) g.town):Int) - aD g.town))
theorem ok (F:p6 K "answer_solve" "answer_solve" sS f fd) (W:Wd K mg C) (p:Ps ⟨P,w,K,mg,base,k⟩):eS P w K mg base iR (k+1) f fd pP (DR K C 0 iZ):=by
 refine F.ok sc (fun vs H Q E h=>?_) (fun ft A0 outer s H vs Q E hr h=>?_)
 ·obtain ⟨_,_,_,_,xs,rfl,p0,_⟩:=h
  show (vL xs).length+1=_
  rw [eK,p0];rfl
 ·obtain ⟨A,F0,ow,a,xs,rfl,p0,t,ok,q⟩:=h
  obtain rfl:=G2 p0
  have G:Good (iz iR P w K mg base nN "answer_solve" (aa sS) f ft A0 outer s H E).q5 k:=⟨hr,rfl,sc.nd,W.bl⟩
  refine ⟨_,aF (dh (i:=1) sc.nd rfl (Or.inl rfl) ((kE (N:=nN) (sc:=aa sS) (.call "answer_hint" (Ac .hint) (x1 (.var 0))) G rfl rfl)))
   (aF (fS ((tG (N:=nN) (sc:=aa sS) (.op .lt (.ix (.var 1) (.int 0)) (.int 0)) G rfl rfl)) (bw (b5 (pv 1))) c_)
   (aF (dh (i:=2) sc.nd rfl (Or.inl rfl) sA)
   (aF (D1 PassesOwn.never ((tG (N:=nN) (sc:=aa sS) (.op .ge (.ix (.var 1) (.int 0)) (.int 0)) G rfl rfl))
    (aF (Cp ((kE (N:=nN) (sc:=aa sS) (.ix (.var 1) (.int 1)) G rfl rfl)) (Co (kg (pv 0) rfl) ((kE (N:=nN) (sc:=aa sS) (.ix (.var 1) (.int 0)) G rfl rfl)) set_list))
    (aF (Kr (i:=2) sc.nd rfl (Or.inl rfl) sA Kt)
    (bw (dh (i:=1) sc.nd rfl (Or.inl rfl) ((kE (N:=nN) (sc:=aa sS) (.call "answer_hint" (Ac .hint) (x1 (.var 0))) G rfl rfl)))))))
   (bw (b5 ((tH (N:=nN) (sc:=aa sS) (x1 (.var 2)) G rfl rfl))))))),?_⟩
  have hz:(1:Nat)≤sizeLine:=by decide
  refine ⟨lim H A ow,[some (tD a.now),none,none],_,qR,aB (t.Oq W.T ok) (ao (ao aK)),aM (ai (af rfl) ay) (M4 ok),fun v F1 H1 ex dv=>?_⟩
  obtain ⟨ph,rfl,Pt⟩:=ux (r:=gM a.now) dv
  have t1:=t.same ex.hh
  have ot:kD A F0 H ow F0 H1 ow:=kD.refl.same ex.hh
  have IH:H1 ph=some (.lst (aV (gM a.now))):=ex.fh _ _ Pt
  have Yz:∀{H2:Hp} {x o:Option V} {p:Addr} {g:ag},H2 p=some (.lst (aV (gM g)))→Slots K H2 [x,some (.ref p),o] [none,some (dq (gM g)),none]:=fun h=>ao (aB (Dj h (B7 _)) (ao aK))
  have YA:∀{g:ag},Gn (dq (gM g)) (.int 0)=some (.int (gM g).ret):=rfl
  refine gJ (Yz IH) (bx (eA (af rfl) a_ YA) a_ rfl) fun H2 s2=>?_
  have t2:=t1.same s2
  have rL:=ot.same s2
  by_cases Ot:(gM a.now).ret < 0
  ·rw [decide_eq_true Ot,if_pos rfl]
   have ee:iZ a.now []=(a.now,gM a.now):=if_pos Ot
   rw [ee] at q
   have vR:H ph=none:=by
    have nn:∀l:List Nat,aV (gM a.now)≠vL l:=fun l e=>by
     unfold aV vL at e
     cases l with
     | nil=>cases e
     | cons y l =>
      injection e with e _
      injection e with e
      omega
    rcases uw t ex Pt with e|e|e
    ·exact e
    ·have:=t1.hc
     rw [←e,IH] at this
     injection this with this
     injection this with this
     exact absurd this (nn _)
    ·have:=t1.hk
     rw [←e,IH] at this
     injection this with this
     injection this with this
     exact absurd this (nn _)
   refine ⟨_,rfl,?_⟩
   have jb:=Ext.add t.fh (ex.hh.trans s2) vR (s2 _ _ IH)
   exact q _ _ H2 ow (t.ext jb) (kD.refl.ext jb) (Dj aL (B7 _))
  ·rw [decide_eq_false Ot,if_neg (by decide)]
   have ee:iZ a.now []=({ a.now with town:=dH a.now.n a.now.clues (a.now.n*a.now.n) a.now.town },aw ((aD (dH a.now.n a.now.clues (a.now.n*a.now.n) a.now.town):Int) - aD a.now.town)):=if_neg Ot
   rw [ee] at q
   let gt:vN→ag:=fun l=>{ a.now with town:=l }
   refine ⟨fun m σ H3=>∃(p:Addr) (b fu:Nat) (l:vN),m=100 - b∧σ=[some (.ref A),some (.ref p),some (.int b)]∧TS K C F0 H3 A ow { a with now:=gt l }∧kD A F0 H ow F0 H3 ow∧cP (gt l)∧H3 p=some (.lst (aV (gM (gt l)))) ∧
     dH a.now.n a.now.clues (a.now.n*a.now.n) a.now.town=dH a.now.n a.now.clues fu l∧aD l=aD a.now.town+b∧l.length≤fu+aD l,
    ⟨_,ph,0,a.now.n*a.now.n,a.now.town,rfl,rfl,t2,rL,ok,s2 _ _ IH,rfl,rfl,by rw [ok.town];omega⟩,?_⟩
   rintro m σ H3 ⟨p,b,fu,l,rfl,rfl,t3,oP,o3,YB,YC,P6,hfu⟩
   refine gJ (Yz YB) (bx (eA (af rfl) a_ YA) a_ rfl) fun H4 s4=>?_
   have t4:=t3.same s4
   have vT:=oP.same s4
   by_cases NP:0≤(gM (gt l)).ret
   ·rw [decide_eq_true NP,if_pos rfl]
    refine ⟨_,fun fJ H' h=>h,?_⟩
    obtain ⟨⟨c,h⟩,Vi,YD,hh⟩:=Fn NP
    obtain ⟨⟨kk,ii,hii,D_⟩,h0,WZ,hhi⟩:=Xa.B1 YD
    have hc:c < l.length:=by have:=o3.town;rw [show l.length=a.now.n*a.now.n from this];exact oZ hii D_
    have JU:=s4 _ _ YB
    rw [hh] at JU
    have YE:∀{H2:Hp} {x o:Option V},H2 p=some (.lst (aV ⟨(c:Nat),[h]⟩))→Slots K H2 [x,some (.ref p),o] [none,some (dq ⟨(c:Nat),[h]⟩),none]:=fun h=>ao (aB (Dj h (by show 1≤900;decide)) (ao aK))
    refine g0 (YE JU) (eA (af rfl) a_ (show Gn (dq ⟨(c:Nat),[h]⟩) (.int 1)=some (iN h) from rfl)) fun v H5 s5 dv=>?_
    obtain rfl:=bF dv
    have t5:=t4.same s5
    obtain ⟨dx,gs,y1,y2,y3,y4⟩:=t5.ex
    refine ⟨_,rfl,A,C,dx,gs,.ref ow.c,rfl,y1,W.T.cl,W.T.cells,y3,?_⟩
    refine g0 (YE (s5 _ _ JU)) (eA (af rfl) a_ (show Gn (dq ⟨(c:Nat),[h]⟩) (.int 0)=some (iN c) from rfl)) fun v H6 s6 dv=>?_
    obtain rfl:=bF dv
    have t6:=t5.same s6
    have II:=(vT.same s5).same s6
    refine ⟨ow.c,_,_,c,rfl,rfl,t6.hc,Fm hc,?_⟩
    rw [Di]
    have t7:=t6.cells (l.set c h)
    have Gk:=II.put (.inr (.inl rfl)) (.lst (vL (l.set c h)))
    have o7:cP (gt (l.set c h)):=xT o3 (show h≤a.now.n from hhi)
    refine ⟨_,rfl,_,_,rfl,rfl,?_⟩
    refine g0 (ρ:=[some (tD (gt (l.set c h))),none,none]) (aB (t7.den W.T o7) (ao (ao aK))) (aM (ai (af rfl) ay) (M4 o7)) fun v H8 s8 dv=>?_
    obtain ⟨p8,rfl,hp8⟩:=ux (r:=gM (gt (l.set c h))) dv
    have UD:=rC hc h0 (show h≠0 by omega)
    obtain ⟨XJ,rfl⟩:∃XJ,fu=XJ+1:=⟨fu - 1,by
     have:aD l < l.length:=by
      have h1:=Xc.zb (l.set c h)
      rw [cO,UD] at h1
      omega
     omega⟩
    have aaw:aD (l.set c h)≤16:=aP (Xc.zb _) (cP.G3 o7).1
    exact ⟨_,show 100 - (b+1) < 100 - b by omega,p8,b+1,XJ,l.set c h,rfl,rfl,t7.same s8,Gk.same s8,o7,hp8,by rw [YC,Xc.JP Vi YD],by rw [UD,P6];omega,by rw [cO,UD];omega⟩
   ·rw [decide_eq_false NP,if_neg (by decide)]
    obtain ⟨QB,_⟩:=IJ (show (gM (gt l)).ret < 0 by omega)
    have XM:=Xc.GY QB fu
    rw [YC,show dH a.now.n a.now.clues fu l=l from XM] at q
    refine jI (ρ:=[none,none,some (iN b)]) (ao (ao (aB (bR _) aK))) (ai (af rfl) ay) fun p vs H5 s5 np hp _ dl=>hE t4 vT s5 np hp dl ?_ hz q
    show [iN b]=[D.int ((aD l:Int) - aD a.now.town)]
    unfold iN
    congr 2
    omega
end Dsolve
end
end Tn
namespace Tn
open PySem PySem.Spec PyProof.Rows L2 Mi
theorem vG {K:ab} {F:Hp} {d:D}:∀{ds:List D} {vs:List V},cG K F (ds++[d]) vs→∃us y,vs=us++[y]∧cG K F ds us∧Den K F d y
 | [],vs,h=>by
  obtain ⟨y,r,rfl,h1,h2⟩:=bM h
  obtain rfl:=bO h2
  exact ⟨[],y,rfl,bX,h1⟩
 | e::ds,vs,h=>by
  obtain ⟨v,r,rfl,h1,h2⟩:=bM h
  obtain ⟨us,y,rfl,h3,h4⟩:=vG h2
  exact ⟨v::us,y,rfl,bD h1 h3,h4⟩
noncomputable def Fo (K:ab) (C:Addr):Sp:=fun vs H Q _=>∃(A:Addr) (F:Hp) (w:Own) (a:aE),vs=[.ref A]∧TS K C F H A w a∧cP a.now∧∀v F' H',Ext F H F' H'→Den K F' (mD a.now) v→Q v H'
noncomputable def Ou (K:ab) (C:Addr):Sp:=fun vs H Q _=>∃(A:Addr) (v:V) (F:Hp) (w:Own) (a:aE) (g:ag),vs=[.ref A,v]∧TS K C F H A w a∧Den K F (mD g) v∧cP g∧g.n=a.now.n ∧
 ∀H' w',TS K C F H' A w' { a with now:=g }→kD A F H w F H' w'→Q .gH H'
noncomputable def IK (K:ab) (C:Addr):Sp:=fun vs H Q _=>∃(A:Addr) (v:V) (F:Hp) (w:Own) (a:aE) (g:ag),vs=[.ref A,v]∧TS K C F H A w a∧Den K F (mD g) v∧a.undo.length≤20 ∧
 ∀H' w',TS K C F H' A w' { a with undo:=(g::a.undo).take 20,redo:=[] }→kD A F H w F H' w'→Q .gH H'
structure Mt (a:aE):Prop where
 now:cP a.now
 old:∀g∈a.undo++a.redo,cP g∧g.n=a.now.n
 wQ:a.undo.length+a.redo.length≤20
noncomputable def Vz (K:ab) (C:Addr) (R:aE→aE×aW):Sp:=fun vs H Q _=>∃(A:Addr) (F:Hp) (w:Own) (a:aE),vs=[.ref A]∧TS K C F H A w a∧Mt a ∧
 ∀v F' H' w',TS K C F' H' A w' (R a).1→kD A F H w F' H' w'→Den K F' (dq (R a).2) v→Q v H'
noncomputable def eD (f:Str) (n:Nat):D:=.obj [f] [.lst (aH n .any)]
theorem Fp (f:Str) (n:Nat):qo (eD f n) f=some (.lst (aH n .any)):=by
 show look f [f] _=_
 unfold look;rw [if_pos rfl]
theorem Fq {K:ab} {C A dx q:Addr} {H:Hp} {gs:List (Str×V)} {f:Str} {vs:List V} (h:H A=some (.ins C dx gs)) (c:MU K C) (n:jv K C f) (l:gs.lookup f=some (.ref q)) (hq:H q=some (.lst vs)) (hz:vs.length≤100):Den K H (eD f vs.length) (.ref A) :=
 zl h c (g8 n l uv) (bD (gA (by rw [c9];exact aP hz (by decide)) hq (xU vs)) bX)
section
variable {P:Program} {w:World} {K:ab} {mg:Str→Option Value} {base:Heap} {C:Addr} {k:Nat} {f:Addr} {fd:FuncData}
namespace Dmoment
noncomputable def nN:List Str:=["town"]
noncomputable abbrev sS:Stmt:=top 63
theorem sc:aS nN nN (aa sS):=⟨rfl,rfl,rfl,by decide +kernel,rfl,by decide +kernel,by decide +kernel⟩
theorem ok (F:p6 K "moment_of" "moment_of" sS f fd) (W:Wd K mg C):eS P w K mg base iR (k+1) f fd nN (Fo K C):=by
 refine F.ok sc (fun vs H Q E h=>?_) (fun ft A0 outer s H vs Q E hr h=>?_)
 ·obtain ⟨_,_,_,_,rfl,_⟩:=h
  rfl
 ·obtain ⟨A,F0,ow,a,rfl,t,ok,q⟩:=h
  have G:Good (iz iR P w K mg base nN "moment_of" (aa sS) f ft A0 outer s H E).q5 k:=⟨hr,rfl,sc.nd,W.bl⟩
  have hg:Gl (iz iR P w K mg base nN "moment_of" (aa sS) f ft A0 outer s H E).q5 "list" := gv (by show pY (aa sS) "list" = true;decide +kernel)
  refine ⟨_,bw (b5 (KD (br (mm iS hg W.bl.list boot_list (br (kg (pv 0) rfl) cw)) (br (mm iS hg W.bl.list boot_list (br (kg (pv 0) rfl) cw)) cw)))),?_⟩
  obtain ⟨l1,l2,l3⟩:=ok.G3
  obtain ⟨dx,gs,y1,y2,y3,y4,y5⟩:=t.ex
  refine ⟨_,rfl,A,C,dx,gs,.ref ow.c,rfl,y1,W.T.cl,W.T.cells,y3,ow.c,_,rfl,.inl (fo.of t.hc),fun p np=>?_⟩
  have e1:=Ext.new t.fh np (.lst (vL a.now.town))
  have t1:=t.ext e1
  obtain ⟨dx,gs,y1,y2,y3,y4,y5⟩:=t1.ex
  refine ⟨_,rfl,A,C,dx,gs,.ref ow.k,rfl,y1,W.T.cl,W.T.clues,y4,ow.k,_,rfl,.inl (fo.of t1.hk),fun r nr=>?_⟩
  have e2:=Ext.new t1.fh nr (.lst (vL a.now.clues.flatten))
  have t2:=t1.ext e2
  refine ⟨by show 2≤sizeLine;decide,fun z nz=>?_⟩
  have e3:=Ext.new t2.fh nz (.tup [.ref p,.ref r])
  refine q _ _ _ ((e1.trans e2).trans e3) (yp (yc.of aL) (bD (oa (e3.ff _ _ (e2.ff _ _ aL)) (by omega)) (bD (oa (e3.ff _ _ aL) (by omega)) bX)))
end Dmoment
namespace Dbring
noncomputable def nN:List Str:=["town","moment"]
noncomputable abbrev sS:Stmt:=top 64
theorem sc:aS nN nN (aa sS):=⟨rfl,rfl,rfl,by decide +kernel,rfl,by decide +kernel,by decide +kernel⟩
theorem ok (F:p6 K "bring_to" "bring_to" sS f fd) (W:Wd K mg C) (p:Ps ⟨P,w,K,mg,base,k⟩):eS P w K mg base iR (k+1) f fd nN (Ou K C):=by
 refine F.ok sc (fun vs H Q E h=>?_) (fun ft A0 outer s H vs Q E hr h=>?_)
 ·obtain ⟨_,_,_,_,_,_,rfl,_⟩:=h
  rfl
 ·obtain ⟨A,v,F0,ow,a,g,rfl,t,dv,ok,YF,q⟩:=h
  have G:Good (iz iR P w K mg base nN "bring_to" (aa sS) f ft A0 outer s H E).q5 k:=⟨hr,rfl,sc.nd,W.bl⟩
  have hg:Gl (iz iR P w K mg base nN "bring_to" (aa sS) f ft A0 outer s H E).q5 "list" := gv (by show pY (aa sS) "list" = true;decide +kernel)
  refine ⟨_,aF (eR (pv 0) (mm iS hg W.bl.list boot_list (br ((kE (N:=nN) (sc:=aa sS) (.ix (.var 1) (.int 0)) G rfl rfl)) cw)) rfl)
   (bw (eR (pv 0) (mm iS hg W.bl.list boot_list (br ((kE (N:=nN) (sc:=aa sS) (.ix (.var 1) (.int 1)) G rfl rfl)) cw)) rfl)),?_⟩
  have sl:Slots K F0 [some (.ref A),some v] [none,some (mD g)]:=ao (aB dv aK)
  refine ⟨F0,_,_,t.fh,sl,eA (af rfl) a_ (show Gn (mD g) (.int 0)=some (iL g.town) from rfl),fun u F1 H1 ex du=>?_⟩
  obtain ⟨pc,rfl,M6⟩:=iK du
  have t1:=t.same ex.hh
  have ot:kD A F0 H ow F0 H1 ow:=kD.refl.same ex.hh
  refine ⟨pc,_,rfl,.inl (fo.of (ex.fh _ _ M6)),fun z nz=>?_⟩
  obtain ⟨n1,n2,n3,n4,n5⟩:=t1.new nz
  have sz:=eF nz (.lst (vL g.town))
  have t2:=t1.same sz
  obtain ⟨dx,gs,y1,y2,y3,y4,y5,y6,y7⟩:=t2.ex
  refine ⟨_,rfl,A,C,dx,gs,rfl,y1,W.T.cl,W.T.cells,by omega,?_⟩
  have t3:=t2.tu y1 aL n1 ⟨n3,n4,n5⟩
  have oP:=(ot.same sz).fc (p:=z) (.inr (ot.Ad _ nz)) (.ins C dx (cW "cells" (.ref z) gs))
  refine ⟨F0,_,_,t3.fh,sl,eA (af rfl) a_ (show Gn (mD g) (.int 1)=some (iL g.clues.flatten) from rfl),fun u F4 H4 tW du=>?_⟩
  obtain ⟨pk,rfl,hpk⟩:=iK du
  have t4:=t3.same tW.hh
  have vT:=oP.same tW.hh
  refine ⟨pk,_,rfl,.inl (fo.of (tW.fh _ _ hpk)),fun z' XN=>?_⟩
  obtain ⟨m1,m2,m3,m4,m5⟩:=t4.new XN
  have YG:=eF XN (.lst (vL g.clues.flatten))
  have t5:=t4.same YG
  obtain ⟨dx,gs,y1,y2,y3,y4,y5,y6,y7⟩:=t5.ex
  refine ⟨_,rfl,A,C,dx,gs,rfl,y1,W.T.cl,W.T.clues,by omega,?_⟩
  have t6:=t5.vF y1 aL m1 ⟨m2,m4,m5⟩
  have II:=(vT.same YG).fk (p:=z') (.inr (vT.Ad _ XN)) (.ins C dx (cW "clues" (.ref z') gs))
  have eg:({ { a.now with town:=g.town } with clues:=g.clues }:ag)=g:=by
   cases g
   simp only at YF
   rw [YF]
  have t7:TS K C F0 _ A _ { a with now:=({ { a.now with town:=g.town } with clues:=g.clues }:ag) }:=t6
  rw [eg] at t7
  exact q _ _ t7 II
end Dbring
namespace Drem
noncomputable def nN:List Str:=["town","before"]
noncomputable abbrev sS:Stmt:=top 65
theorem sc:aS nN nN (aa sS):=⟨rfl,rfl,rfl,by decide +kernel,rfl,by decide +kernel,by decide +kernel⟩
theorem ok (F:p6 K "remember" "remember" sS f fd) (W:Wd K mg C) (p:Ps ⟨P,w,K,mg,base,k⟩):eS P w K mg base iR (k+1) f fd nN (IK K C):=by
 refine F.ok sc (fun vs H Q E h=>?_) (fun ft A0 outer s H vs Q E hr h=>?_)
 ·obtain ⟨_,_,_,_,_,_,rfl,_⟩:=h
  rfl
 ·obtain ⟨A,v,F0,ow,a,g,rfl,t,dv,hu,q⟩:=h
  have G:Good (iz iR P w K mg base nN "remember" (aa sS) f ft A0 outer s H E).q5 k:=⟨hr,rfl,sc.nd,W.bl⟩
  refine ⟨_,aF (jm (tR PySem.F.plainAttrs_list PySem.F.slot_list_append PySem.F.type_list_append oy (kg (pv 0) rfl) (br (pv 1) cw)))
   (aF (fS ((tG (N:=nN) (sc:=aa sS) (.op .gt (.un .len (.fld (.var 0) "earlier")) (.gl "MOST_CHANGES" (.int 20))) G rfl rfl)) (bw (jm (tR PySem.F.plainAttrs_list PySem.F.slot_list_pop PySem.F.type_list_pop KR (kg (pv 0) rfl) (br sA cw)))) c_)
   (bw (eR (pv 0) ((tH (N:=nN) (sc:=aa sS) .nil G rfl rfl)) rfl))),?_⟩
  have hz:(1000:Nat)≤sizeLine:=by decide
  obtain ⟨vs,he,hd⟩:=t.he
  have M7:vs.length=a.undo.length:=by have:=bP hd;rw [ah,a9] at this;exact this.symm
  obtain ⟨dx,gs,y1,y2,y3,y4,y5,y6,y7⟩:=t.ex
  refine ⟨_,rfl,A,C,dx,gs,.ref ow.e,rfl,y1,W.T.cl,W.T.kO,y5,.inl ⟨rfl,_,fo.of he⟩,_,rfl,ow.e,_,_,rfl,rfl,he,by omega,?_⟩
  have YH:cG K F0 ((g::a.undo).reverse.map mD) (vs++[v]):=by
   rw [dZ,bq]
   exact jN hd (bD dv bX)
  have t1:=t.Om (g::a.undo) YH
  have ot:kD A F0 H ow F0 _ ow:=kD.refl.put (.inr (.inr (.inr (.inl rfl)))) (.lst (vs++[v]))
  obtain ⟨dx,gs,y1,y2,y3,y4,y5,y6,y7⟩:=t1.ex
  refine gJ (ρ:=[some (eD "earlier" (vs++[v]).length),none]) (aB (Fq y1 W.T.cl W.T.kO y5 aL (by simp;omega)) (ao aK)) (bx (fV (cq (af rfl) (Fp _ _)) (pq _)) bZ (jD (b:=20))) fun H2 s2=>?_
  have t2:=t1.same s2
  have rL:=ot.same s2
  have fin:∀{H3:Hp} {u:List ag},TS K C F0 H3 A ow { a with undo:=u }→kD A F0 H ow F0 H3 ow→u=(g::a.undo).take 20→Ny K (sy 0) (J9 K (kj .nil)) "later" { nx:=fun _ H'=>Q .gH H',rt:=Q } [some (.ref A),some v] H3:=fun {H3 u} t3 oP hu3=>by
   refine jI (ρ:=[none,none]) (ao (ao aK)) ay fun z us H4 s4 nz VA _ dl=>?_
   obtain rfl:=bO dl
   have t4:=t3.same s4
   obtain ⟨n1,n2,n3,n4,n5⟩:=t3.new nz
   obtain ⟨dx,gs,y1,y2,y3,y4,y5,y6,y7⟩:=t4.ex
   refine ⟨_,rfl,A,C,dx,gs,rfl,y1,W.T.cl,W.T.later,by omega,?_⟩
   subst hu3
   exact q _ _ (t4.Po y1 VA n1 ⟨n2,n3,n4⟩) ((oP.same s4).fl (p:=z) (.inr (oP.Ad _ nz)) (.ins C dx (cW "later" (.ref z) gs)))
  by_cases hb:20 < (vs++[v]).length
  ·rw [decide_eq_true hb,if_pos rfl]
   have h21:(g::a.undo).length=21:=by rw [ax,M7] at hb;have:a.undo.length+1 > 20:=hb;rw [az];omega
   obtain ⟨dx,gs,y1,y2,y3,y4,y5,y6,y7⟩:=t2.ex
   have YI:H2 ow.e=some (.lst (vs++[v])):=s2 _ _ aL
   obtain ⟨y,hy⟩:∃y,(vs++[v])[0]?=some y:=⟨_,au (by omega)⟩
   refine ⟨_,rfl,A,C,dx,gs,.ref ow.e,rfl,y1,W.T.cl,W.T.kO,y5,.inl ⟨rfl,_,fo.of YI⟩,ow.e,_,0,0,y,rfl,rfl,YI,by decide,by decide,?_,hy,?_⟩
   ·exact (Cr (by unfold MW;rw [if_pos (by omega),if_pos (by omega)];rfl)).1
   ·have UE:cG K F0 (((g::a.undo).take 20).reverse.map mD) ((vs++[v]).eraseIdx 0):=by
     rw [List.reverse_take,h21,List.eraseIdx_zero,←List.drop_one,pV]
     exact uW 1 YH
    exact fin (t2.Om _ UE) (rL.put (.inr (.inr (.inr (.inl rfl)))) _) rfl
  ·rw [decide_eq_false hb,if_neg (by decide)]
   refine fin t2 rL ?_
   rw [d7]
   rw [ax,M7] at hb
   rw [az]
   have:¬a.undo.length+1 > 20:=hb
   omega
end Drem
namespace Dback
noncomputable def nN:List Str:=["town"]
noncomputable abbrev sS:Stmt:=top 66
theorem sc:aS nN nN (aa sS):=⟨rfl,rfl,rfl,by decide +kernel,rfl,by decide +kernel,by decide +kernel⟩
noncomputable def res (a:aE):aE×aW:=match a.undo with
 | g::l=>((⟨g,l,a.now::a.redo⟩:aE),aw l.length)
 | []=>(a,aw (-2))
theorem ok (F:p6 K "answer_back" "answer_back" sS f fd) (W:Wd K mg C) (p:Ps ⟨P,w,K,mg,base,k⟩) (hm:rB ⟨P,w,K,mg,base,k⟩ "moment_of" ["town"] (Fo K C)) (hb:rB ⟨P,w,K,mg,base,k⟩ "bring_to" ["town","moment"] (Ou K C)):eS P w K mg base iR (k+1) f fd nN (Vz K C res):=by
 refine F.ok sc (fun vs H Q E h=>?_) (fun ft A0 outer s H vs Q E hr h=>?_)
 ·obtain ⟨_,_,_,_,rfl,_⟩:=h
  rfl
 ·obtain ⟨A,F0,ow,a,rfl,t,wf,q⟩:=h
  have G:Good (iz iR P w K mg base nN "answer_back" (aa sS) f ft A0 outer s H E).q5 k:=⟨hr,rfl,sc.nd,W.bl⟩
  refine ⟨_,aF (fS ((tG (N:=nN) (sc:=aa sS) (.op .eq (.un .len (.fld (.var 0) "earlier")) (.int 0)) G rfl rfl)) (bw (b5 ((tH (N:=nN) (sc:=aa sS) (x1 Vy) G rfl rfl)))) c_)
   (aF (jm (tR PySem.F.plainAttrs_list PySem.F.slot_list_append PySem.F.type_list_append oy (kg (pv 0) rfl) (br ((hc (sc:=aa sS) (k:=k) hm G rfl (by decide +kernel) (br (pv 0) cw) rfl rfl)) cw)))
   (aF (jm ((hc (sc:=aa sS) (k:=k) hb G rfl (by decide +kernel) (br (pv 0) (br (KN PySem.F.plainAttrs_list PySem.F.slot_list_pop PySem.F.type_list_pop KQ (kg (pv 0) rfl)) cw)) rfl rfl)))
   (bw (b5 ((tH (N:=nN) (sc:=aa sS) (x1 (.un .len (.fld (.var 0) "earlier"))) G rfl rfl)))))),?_⟩
  have hz:(1000:Nat)≤sizeLine:=by decide
  have wQ:=wf.wQ
  obtain ⟨vs,he,hd⟩:=t.he
  have M7:vs.length=a.undo.length:=by have:=bP hd;rw [ah,a9] at this;exact this.symm
  obtain ⟨dx,gs,y1,y2,y3,y4,y5,y6,y7⟩:=t.ex
  refine gJ (ρ:=[some (eD "earlier" vs.length)]) (aB (Fq y1 W.T.cl W.T.kO y5 he (by omega)) aK) (bx (fV (cq (af rfl) (Fp _ _)) (pq _)) a_ (fT (b:=0))) fun H1 s1=>?_
  have t1:=t.same s1
  have ot:kD A F0 H ow F0 H1 ow:=kD.refl.same s1
  cases hU:a.undo with
  | nil =>
   rw [hU] at M7
   rw [decide_eq_true (show vs.length=0 from M7),if_pos rfl]
   have ee:res a=(a,aw (-2)):=by unfold res;rw [hU]
   rw [ee] at q
   exact jI (ρ:=[none]) (ao aK) (ai bZ ay) fun p vs H2 s2 np hp _ dl=>hE t1 ot s2 np hp dl rfl (by show 1≤_;omega) q
  | cons g l =>
   rw [hU,az] at M7
   rw [decide_eq_false (show ¬vs.length=0 by omega),if_neg (by decide)]
   have ee:res a=((⟨g,l,a.now::a.redo⟩:aE),aw l.length):=by unfold res;rw [hU]
   rw [ee] at q
   obtain ⟨dx,gs,y1,y2,y3,y4,y5,y6,y7⟩:=t1.ex
   have hold:cP g∧g.n=a.now.n:=wf.old g (by rw [bG,hU];simp)
   rw [hU] at wQ
   have wQ:l.length+1+a.redo.length≤20:=wQ
   obtain ⟨us,R6,Pa⟩:=t1.hl
   have hul:us.length=a.redo.length:=by have:=bP Pa;rw [ah,a9] at this;exact this.symm
   refine ⟨_,rfl,A,C,dx,gs,.ref ow.l,rfl,y1,W.T.cl,W.T.later,y6,.inl ⟨rfl,_,fo.of R6⟩,?_⟩
   refine ⟨_,rfl,A,F0,ow,a,rfl,t1,wf.now,fun v F2 H2 ex dv=>?_⟩
   have t2:=t1.ext ex
   have rL:=ot.ext ex
   refine ⟨ow.l,_,_,rfl,rfl,ex.hh _ _ R6,by omega,?_⟩
   have UE:cG K F2 ((a.now::a.redo).reverse.map mD) (us++[v]):=by
    rw [dZ,bq]
    exact jN (cC ex.ff _ _ Pa) (bD dv bX)
   have t3:=t2.UA (a.now::a.redo) UE
   have oP:=rL.put (b:=ow.l) (.inr (.inr (.inr (.inr rfl)))) (.lst (us++[v]))
   obtain ⟨XO,UG,Rq⟩:=t3.he
   have UH:cG K F2 (a.undo.reverse.map mD) XO:=Rq
   rw [hU,dZ,bq] at UH
   obtain ⟨XQ,y,rfl,d5,d6⟩:=vG UH
   obtain ⟨dx,gs,y1,y2,y3,y4,y5,y6,y7⟩:=t3.ex
   refine ⟨_,rfl,_,rfl,A,C,dx,gs,.ref ow.e,rfl,y1,W.T.cl,W.T.kO,y5,.inl ⟨rfl,_,fo.of UG⟩,ow.e,_,y,rfl,rfl,UG,by simp,?_⟩
   rw [Kd]
   have t5:=t3.Om l d5
   have uN:=oP.put (b:=ow.e) (.inr (.inr (.inr (.inl rfl)))) (.lst XQ)
   refine ⟨A,y,F2,ow,_,g,rfl,t5,d6,hold.1,hold.2,fun H6 w6 t6 II=>?_⟩
   have Gk:=uN.trans II
   obtain ⟨UI,XR,XS⟩:=t6.he
   have Rr:UI.length=l.length:=by have:=bP XS;rw [ah,a9] at this;exact this.symm
   obtain ⟨dx,gs,y1,y2,y3,y4,y5,y6,y7⟩:=t6.ex
   have t7:TS K C F2 H6 A w6 (⟨g,l,a.now::a.redo⟩:aE):=t6
   exact jI (ρ:=[some (eD "earlier" UI.length)]) (aB (Fq y1 W.T.cl W.T.kO y5 XR (by omega)) aK) (ai (fV (cq (af rfl) (Fp _ _)) (pq _)) ay) fun p vs H8 s8 np hp _ dl=>hE t7 Gk s8 np hp dl (by rw [Rr];rfl) (by show 1≤_;omega) q
end Dback
namespace Dagain
noncomputable def nN:List Str:=["town"]
noncomputable abbrev sS:Stmt:=top 67
theorem sc:aS nN nN (aa sS):=⟨rfl,rfl,rfl,by decide +kernel,rfl,by decide +kernel,by decide +kernel⟩
noncomputable def res (a:aE):aE×aW:=match a.redo with
 | g::l=>((⟨g,(a.now::a.undo).take DP,l⟩:aE),aw l.length)
 | []=>(a,aw (-2))
theorem ok (F:p6 K "answer_again" "answer_again" sS f fd) (W:Wd K mg C) (p:Ps ⟨P,w,K,mg,base,k⟩) (hm:rB ⟨P,w,K,mg,base,k⟩ "moment_of" ["town"] (Fo K C)) (hb:rB ⟨P,w,K,mg,base,k⟩ "bring_to" ["town","moment"] (Ou K C)):eS P w K mg base iR (k+1) f fd nN (Vz K C res):=by
 refine F.ok sc (fun vs H Q E h=>?_) (fun ft A0 outer s H vs Q E hr h=>?_)
 ·obtain ⟨_,_,_,_,rfl,_⟩:=h
  rfl
 ·obtain ⟨A,F0,ow,a,rfl,t,wf,q⟩:=h
  have G:Good (iz iR P w K mg base nN "answer_again" (aa sS) f ft A0 outer s H E).q5 k:=⟨hr,rfl,sc.nd,W.bl⟩
  refine ⟨_,aF (fS ((tG (N:=nN) (sc:=aa sS) (.op .eq (.un .len (.fld (.var 0) "later")) (.int 0)) G rfl rfl)) (bw (b5 ((tH (N:=nN) (sc:=aa sS) (x1 Vy) G rfl rfl)))) c_)
   (aF (jm (tR PySem.F.plainAttrs_list PySem.F.slot_list_append PySem.F.type_list_append oy (kg (pv 0) rfl) (br ((hc (sc:=aa sS) (k:=k) hm G rfl (by decide +kernel) (br (pv 0) cw) rfl rfl)) cw)))
   (aF (jm ((hc (sc:=aa sS) (k:=k) hb G rfl (by decide +kernel) (br (pv 0) (br (KN PySem.F.plainAttrs_list PySem.F.slot_list_pop PySem.F.type_list_pop KQ (kg (pv 0) rfl)) cw)) rfl rfl)))
   (bw (b5 ((tH (N:=nN) (sc:=aa sS) (x1 (.un .len (.fld (.var 0) "later"))) G rfl rfl)))))),?_⟩
  have hz:(1000:Nat)≤sizeLine:=by decide
  have wQ:=wf.wQ
  obtain ⟨vs,he,hd⟩:=t.hl
  have M7:vs.length=a.redo.length:=by have:=bP hd;rw [ah,a9] at this;exact this.symm
  obtain ⟨dx,gs,y1,y2,y3,y4,y5,y6,y7⟩:=t.ex
  refine gJ (ρ:=[some (eD "later" vs.length)]) (aB (Fq y1 W.T.cl W.T.later y6 he (by omega)) aK) (bx (fV (cq (af rfl) (Fp _ _)) (pq _)) a_ (fT (b:=0))) fun H1 s1=>?_
  have t1:=t.same s1
  have ot:kD A F0 H ow F0 H1 ow:=kD.refl.same s1
  cases hU:a.redo with
  | nil =>
   rw [hU] at M7
   rw [decide_eq_true (show vs.length=0 from M7),if_pos rfl]
   have ee:res a=(a,aw (-2)):=by unfold res;rw [hU]
   rw [ee] at q
   exact jI (ρ:=[none]) (ao aK) (ai bZ ay) fun p vs H2 s2 np hp _ dl=>hE t1 ot s2 np hp dl rfl (by show 1≤_;omega) q
  | cons g l =>
   rw [hU,az] at M7
   rw [decide_eq_false (show ¬vs.length=0 by omega),if_neg (by decide)]
   have ee:res a=((⟨g,(a.now::a.undo).take DP,l⟩:aE),aw l.length):=by unfold res;rw [hU]
   rw [ee] at q
   obtain ⟨dx,gs,y1,y2,y3,y4,y5,y6,y7⟩:=t1.ex
   have hold:cP g∧g.n=a.now.n:=wf.old g (by rw [bG,hU];simp)
   rw [hU] at wQ
   have wQ:a.undo.length+(l.length+1)≤20:=wQ
   obtain ⟨us,R6,Pa⟩:=t1.he
   have hul:us.length=a.undo.length:=by have:=bP Pa;rw [ah,a9] at this;exact this.symm
   refine ⟨_,rfl,A,C,dx,gs,.ref ow.e,rfl,y1,W.T.cl,W.T.kO,y5,.inl ⟨rfl,_,fo.of R6⟩,?_⟩
   refine ⟨_,rfl,A,F0,ow,a,rfl,t1,wf.now,fun v F2 H2 ex dv=>?_⟩
   have t2:=t1.ext ex
   have rL:=ot.ext ex
   refine ⟨ow.e,_,_,rfl,rfl,ex.hh _ _ R6,by omega,?_⟩
   have UE:cG K F2 ((a.now::a.undo).reverse.map mD) (us++[v]):=by
    rw [dZ,bq]
    exact jN (cC ex.ff _ _ Pa) (bD dv bX)
   have t3:=t2.Om (a.now::a.undo) UE
   have oP:=rL.put (b:=ow.e) (.inr (.inr (.inr (.inl rfl)))) (.lst (us++[v]))
   obtain ⟨XO,UG,Rq⟩:=t3.hl
   have UH:cG K F2 (a.redo.reverse.map mD) XO:=Rq
   rw [hU,dZ,bq] at UH
   obtain ⟨XQ,y,rfl,d5,d6⟩:=vG UH
   obtain ⟨dx,gs,y1,y2,y3,y4,y5,y6,y7⟩:=t3.ex
   refine ⟨_,rfl,_,rfl,A,C,dx,gs,.ref ow.l,rfl,y1,W.T.cl,W.T.later,y6,.inl ⟨rfl,_,fo.of UG⟩,ow.l,_,y,rfl,rfl,UG,by simp,?_⟩
   rw [Kd]
   have t5:=t3.UA l d5
   have uN:=oP.put (b:=ow.l) (.inr (.inr (.inr (.inr rfl)))) (.lst XQ)
   refine ⟨A,y,F2,ow,_,g,rfl,t5,d6,hold.1,hold.2,fun H6 w6 t6 II=>?_⟩
   have Gk:=uN.trans II
   obtain ⟨UI,XR,XS⟩:=t6.hl
   have Rr:UI.length=l.length:=by have:=bP XS;rw [ah,a9] at this;exact this.symm
   obtain ⟨dx,gs,y1,y2,y3,y4,y5,y6,y7⟩:=t6.ex
   have t7:TS K C F2 H6 A w6 (⟨g,(a.now::a.undo).take DP,l⟩:aE):=by rw [d7 (by rw [az];show _≤20;omega)];exact t6
   exact jI (ρ:=[some (eD "later" UI.length)]) (aB (Fq y1 W.T.cl W.T.later y6 XR (by omega)) aK) (ai (fV (cq (af rfl) (Fp _ _)) (pq _)) ay) fun p vs H8 s8 np hp _ dl=>hE t7 Gk s8 np hp dl (by rw [Rr];rfl) (by show 1≤_;omega) q
end Dagain
end
end Tn
namespace Tn
open PySem PySem.Spec PyProof.Rows L2 Mi
noncomputable def lx (a:aE) (n:Nat) (b:List Nat):aE×aW:=if n < 1∨4 < n then (a,aw (-22)) else match fb n b with
 | some x=>(⟨⟨n,x.1,x.2⟩,[],[]⟩,aw (aD x.1))
 | none=>(a,aw (-71))
noncomputable def IL (K:ab) (C:Addr):Sp:=fun vs H Q _=>∃(A tp:Addr) (F:Hp) (w:Own) (a:aE) (n:Nat) (b:List Nat),vs=[.ref A,.int n,.ref tp]∧TS K C F H A w a∧H tp=some (.lst (vL b))∧F tp=none∧¬w.has A tp∧b.length≤100 ∧
 ∀v F' H' w',TS K C F' H' A w' (lx a n b).1→jk A F H (fun x=>w.has A x∨x=tp) F' H' w'→Den K F' (dq (lx a n b).2) v→Q v H'
noncomputable def part (p:Addr→Prop) (H:Hp):Hp:=fun b=>open Classical in if p b then H b else none
theorem ic {p:Addr→Prop} {H:Hp}:bW (part p H) H:=fun b o e=>by
 unfold part at e
 split at e
 ·exact e
 ·cases e
theorem xV {p:Addr→Prop} {H:Hp} {b:Addr} {o:HO} (h:part p H b=some o):p b:=by
 unfold part at h
 split at h
 ·assumption
 ·cases h
theorem pB {p:Addr→Prop} {H:Hp} {b:Addr} (h:p b):part p H b=H b:=if_pos h
theorem Ext.from {F H F' H':Hp} (e:Ext F H F' H') {p:Addr} {o:HO} (h:F' p=some o):F p=some o∨H p=none:=by
 cases hh:H p with
 | none=>exact .inr rfl
 | some o' =>
  cases hf:F p with
  | none=>rw [e.nw p hf (by rw [hh];exact fun z=>nomatch z)] at h;cases h
  | some o''=>have:=e.ff _ _ hf;rw [h] at this;exact .inl this.symm
theorem Mu {K:ab} {F:Hp}:∀{L:List (List Nat)} {us:List V},cG K F (L.map iL) us→∀(p:Addr→Prop),(∀b,V.ref b∈us→p b)→cG K (part p F) (L.map iL) us
 | [],us,h,p,_=>by rw [bO h];exact bX
 | l::L,us,h,p,hp=>by
  obtain ⟨v,r,rfl,h1,h2⟩:=bM h
  obtain ⟨z,b,vs,rfl,h3,h4⟩:=dd h1
  refine bD (gA z (by rw [pB (hp b (by simp))];exact h3) ?_) (Mu h2 p fun b hb=>hp b (by simp [hb]))
  rw [qJ h4]
  exact mM l
theorem B8 {K:ab} {F:Hp}:∀{L:List (List Nat)} {us:List V} {b:Addr},cG K F (L.map iL) us→V.ref b∈us→∃l∈L,F b=some (.lst (vL l))
 | [],us,b,h,hb=>by rw [bO h] at hb;simp at hb
 | l::L,us,b,h,hb=>by
  obtain ⟨v,r,rfl,h1,h2⟩:=bM h
  rcases aG.mp hb with rfl|hb
  ·obtain ⟨p,e,hp⟩:=iK h1
   cases e
   exact ⟨l,by simp,hp⟩
  ·obtain ⟨m,hm,e⟩:=B8 h2 hb
   exact ⟨m,by simp [hm],e⟩
theorem Fs {K:ab} {H:Hp}:∀{l:List Int} {vs:List V},cG K H (l.map .int) vs→vs=l.map V.int
 | [],vs,h=>bO h
 | x::l,vs,h=>by
  obtain ⟨v,r,rfl,h1,h2⟩:=bM h
  rw [bF h1,Fs h2];rfl
theorem IM {K:ab} {H:Hp} {l:List Int} {v:V} (h:Den K H (GS l) v):∃p,v=.ref p∧H p=some (.lst (l.map V.int)):=by
 obtain ⟨_,p,vs,rfl,h1,h2⟩:=dd h
 rw [Fs h2] at h1
 exact ⟨p,rfl,h1⟩
theorem Ft:∀l:List Int,intsOf (l.map .int)=some l
 | []=>rfl
 | x::l=>by rw [aO,intsOf,Ft l];rfl
theorem Mv {x:Int} {l:List Int}:i9 .isin (.int x) (GS l)=some (.bl (decide (x∈l))):=by
 show ((intsOf (l.map .int)).bind fun y=>some (decide (x∈y))).bind (fun c=>some (D.bl c))=_
 rw [Ft];rfl
theorem Mw {H:Hp} {A p C dx:Addr} {gs:List (Str×V)} {l:List V} {o:HO} (h:H A=some (.ins C dx gs)) (hp:H p=some (.lst l)):upd H A o p=some (.lst l):=by
 rw [aN (ox hp h fun e=>nomatch e)];exact hp
section
variable {P:Program} {w:World} {K:ab} {mg:Str→Option Value} {base:Heap} {C:Addr} {k:Nat} {f:Addr} {fd:FuncData}
namespace Dstart
noncomputable def nN:List Str:=["town","n","text","lines","cells","clues"]
noncomputable def pP:List Str:=["town","n","text"]
noncomputable abbrev sS:Stmt:=top 86
theorem sc:aS nN pP (aa sS):=⟨rfl,rfl,rfl,by decide +kernel,rfl,by decide +kernel,by decide +kernel⟩
noncomputable abbrev YJ:E:=.gl "NO_TOWN" (.int (-71))
theorem ok (F:p6 K "answer_start" "answer_start" sS f fd) (W:Wd K mg C) (p:Ps ⟨P,w,K,mg,base,k⟩):eS P w K mg base iR (k+1) f fd pP (IL K C):=by
 refine F.ok sc (fun vs H Q E h=>?_) (fun ft A0 outer s H vs Q E hr h=>?_)
 ·obtain ⟨_,_,_,_,_,_,_,rfl,_⟩:=h
  rfl
 ·obtain ⟨A,tp,F0,ow,a,n,b,rfl,t,htp,ftp,otp,hb,q⟩:=h
  have G:Good (iz iR P w K mg base nN "answer_start" (aa sS) f ft A0 outer s H E).q5 k:=⟨hr,rfl,sc.nd,W.bl⟩
  refine ⟨_,aF (fS ((tG (N:=nN) (sc:=aa sS) (.or (x2 (.op .lt (.var 1) (.int 1)) (.op .gt (.var 1) (.gl "HIGHEST_SIZE" (.int 4))))) G rfl rfl)) (bw (b5 ((tH (N:=nN) (sc:=aa sS) (x1 Vx) G rfl rfl)))) c_)
   (aF (dh (i:=3) sc.nd rfl (Or.inl rfl) ((kE (N:=nN) (sc:=aa sS) (.call "text_lines" jW (x1 (.var 2))) G rfl rfl)))
   (aF (fS ((tG (N:=nN) (sc:=aa sS) (.not (.call "has_form" mG (x2 (.var 1) (.var 3)))) G rfl rfl)) (bw (b5 ((tH (N:=nN) (sc:=aa sS) (x1 YJ) G rfl rfl)))) c_)
   (aF (dh (i:=4) sc.nd rfl (Or.inl rfl) ((kE (N:=nN) (sc:=aa sS) (.call "read_cells" jY (x2 (.var 1) (.var 3))) G rfl rfl)))
   (aF (dh (i:=5) sc.nd rfl (Or.inl rfl) ((kE (N:=nN) (sc:=aa sS) (.call "read_clues" jZ (x2 (.var 1) (.var 3))) G rfl rfl)))
   (aF (fS ((tG (N:=nN) (sc:=aa sS) (.or (x2 (.op .isin (.gl "NO_SIGN" (.int (-1))) (.var 4)) (.op .isin (.gl "NO_SIGN" (.int (-1))) (.var 5)))) G rfl rfl)) (bw (b5 ((tH (N:=nN) (sc:=aa sS) (x1 YJ) G rfl rfl)))) c_)
   (aF (eR (pv 0) (pv 1) rfl) (aF (eR (pv 0) (pv 4) rfl) (aF (eR (pv 0) (pv 5) rfl)
   (aF (eR (pv 0) ((tH (N:=nN) (sc:=aa sS) .nil G rfl rfl)) rfl) (aF (eR (pv 0) ((tH (N:=nN) (sc:=aa sS) .nil G rfl rfl)) rfl)
   (bw (b5 ((tH (N:=nN) (sc:=aa sS) (x1 (.call "count_towers" fM (x1 (.var 0)))) G rfl rfl)))))))))))))),?_⟩
  have hz:(1:Nat)≤sizeLine:=by decide
  have UJ:∀{H1:Hp} {x1 x2 x3 x4 x5 x6:Option V},Slots K H1 [x1,x2,x3,x4,x5,x6] [none,none,none,none,none,none]:=ao (ao (ao (ao (ao (ao aK)))))
  refine gJ (ρ:=[none,some (iN n),none,none,none,none]) (ao (aB (bR _) (ao (ao (ao (ao aK)))))) (BU (bx (af rfl) a_ (EG (b:=1))) fun _=>bx (af rfl) bZ (jD (b:=4))) fun H1 s1=>?_
  have t1:=t.same s1
  have ot:jk A F0 H (fun x=>ow.has A x∨x=tp) F0 H1 ow:=⟨fun b o h _=>s1 _ _ h,fun b h=>same_none s1 h,same_refl F0,fun _ h _=>h,fun b h=>.inl (.inl h)⟩
  by_cases hn:n < 1∨4 < n
  ·have eb:(decide (n < 1)||decide (4 < n))=true:=by simp only [cY,decide_eq_true_eq];exact hn
   rw [eb,if_pos rfl]
   have ee:lx a n b=(a,aw (-22)):=if_pos hn
   rw [ee] at q
   exact jI UJ (ai bZ ay) fun p vs H2 s2 np hp _ dl=>hE t1 ot s2 np hp dl rfl hz q
  ·have eb:(decide (n < 1)||decide (4 < n))=false:=by rw [pL];simp only [ne_eq,cY,decide_eq_true_eq];exact hn
   rw [eb,if_neg (by decide)]
   have n1:1≤n:=by omega
   have n4:n≤4:=by omega
   refine ⟨part (·=tp) H1,[none,none,some (iL b),none,none,none],_,ic,ao (ao (aB (oa ((pB rfl).trans (s1 _ _ htp)) (by omega)) (ao (ao (ao aK))))),aM (ai (af rfl) ay) (Az (by omega)),fun v F2 H2 jb dv=>?_⟩
   have t2:=t1.same jb.hh
   have rL:=ot.same jb.hh
   generalize hL:fP b=L at dv
   obtain ⟨hz3,p3,us,rfl,h3,d3⟩:=dd dv
   let FL:Hp:=part (fun x=>x=p3∨V.ref x∈us) F2
   have dL:Den K FL (iE L) (.ref p3):=gA hz3 ((pB (.inl rfl)).trans h3) (Mu d3 _ fun b hb=>.inr hb)
   have XT:bW FL H2:=ic.trans jb.fh
   have sl:∀{G:Hp} {o5 o6:Option V},bW FL G→Slots K G [some (.ref A),some (.int n),some (.ref tp),some (.ref p3),o5,o6] [none,some (iN n),none,some (iE L),none,none]:=fun sm=>ao (aB (bR _) (ao (aB (cT sm _ _ dL) (ao (ao aK)))))
   refine gJ (sl XT) (v7 (aM (ai (af rfl) (ai (af rfl) ay)) (E4 n4))) fun H3 s3=>?_
   have t3:=t2.same s3
   have oP:=rL.same s3
   cases XU:qB n L with
   | false =>
    rw [Bool.not_false,if_pos rfl]
    have ee:lx a n b=(a,aw (-71)):=by
     unfold lx
     rw [if_neg hn,C4 (L:=L) (n:=n) hL.symm fun h=>by rw [XU] at h;cases h.1]
    rw [ee] at q
    exact jI UJ (ai bZ ay) fun p vs H4 s4 np hp _ dl=>hE t3 oP s4 np hp dl rfl hz q
   | true =>
    rw [Bool.not_true,if_neg (by decide)]
    have hF:Form n L:=by
     have:=XU
     unfold qB at this
     rw [aj,decide_eq_true_eq] at this
     exact (uk n L).mp this.1
    refine ⟨FL,_,_,XT.trans s3,sl (same_refl FL),aM (ai (af rfl) (ai (af rfl) ay)) (AB n4 hF),fun v4 F4 H4 tW YK=>?_⟩
    obtain ⟨p4,rfl,JU⟩:=IM YK
    have t4:=t3.same tW.hh
    have vT:=oP.same tW.hh
    refine ⟨FL,_,_,(XT.trans s3).trans tW.hh,sl (same_refl FL),aM (ai (af rfl) (ai (af rfl) ay)) (AE n4 hF),fun v5 F5 H5 Lh YL=>?_⟩
    obtain ⟨p5,rfl,YM⟩:=IM YL
    have t5:=t4.same Lh.hh
    have uN:=vT.same Lh.hh
    have h4:H5 p4=some (.lst ((jx n L).map V.int)):=Lh.hh _ _ (tW.fh _ _ JU)
    have h5:H5 p5=some (.lst (((eQ n L).map (sgn n)).map V.int)):=Lh.fh _ _ YM
    refine gJ (ρ:=[none,none,none,none,some (GS (jx n L)),some (GS ((eQ n L).map (sgn n)))]) (ao (ao (ao (ao (aB (cT (tW.fh.trans Lh.hh) _ _ YK) (aB (cT Lh.fh _ _ YL) aK)))))) (BU (bx bZ (af rfl) Mv) fun _=>bx bZ (af rfl) Mv) fun H6 s6=>?_
    have t6:=t5.same s6
    have II:=uN.same s6
    by_cases hg:wb n L=true
    ·have YN:=(uq hF).mp hg
     rw [decide_eq_false YN.1,decide_eq_false YN.2,Bool.or_false,if_neg (by decide)]
     obtain ⟨x,hx,ec,ek,VB⟩:=E7 n1 n4 hL.symm XU hg
     have ee:lx a n b=(⟨⟨n,x.1,x.2⟩,[],[]⟩,aw (aD x.1)):=by
      unfold lx
      rw [if_neg hn,hx]
     rw [ee] at q
     have ez:∀l:List Nat,(l.map fun a:Nat=>(a:Int)).map V.int=vL l:=fun l=>by unfold vL;rw [ba];rfl
     rw [ec,ez] at h4
     rw [ek,ez] at h5
     have UK:∀{o:HO},F4 p4=some o→(ow.has A p4∨p4=tp)∨H p4=none:=fun {o} e=>by
      rcases Ext.from tW e with e|e
      ·have e2:F2 p4=some o:=ic _ _ e
       rcases Ext.from jb e2 with e3|e3
       ·have e4:(fun x=>x=tp) p4:=xV (p:=fun x=>x=tp) e3
        exact .inl (.inr e4)
       ·exact .inr (ot.Ad _ e3)
      ·exact .inr (oP.Ad _ e)
     have o4:=UK JU
     have Rt:H4 p5=none:=by
      rcases Ext.from Lh YM with e|e
      ·exfalso
       have UL:(((eQ n L).map (sgn n)).map V.int).length=4*n:=by
        rw [ek,ez,eK]
        exact (cP.G3 VB).2.1
       rcases xV e with e1|e1
       ·subst e1
        have e2:=ic _ _ e
        rw [h3] at e2
        injection e2 with e2
        injection e2 with e2
        have:us.length=n+2:=by have:=bP d3;rw [ah,hF.1] at this;exact this.symm
        rw [e2,UL] at this
        omega
       ·obtain ⟨l,hl,e2⟩:=B8 d3 e1
        rw [ic _ _ e] at e2
        injection e2 with e2
        injection e2 with e2
        rw [e2,eK,hF.2 l hl] at UL
        omega
      ·exact e
     have h45:p4≠p5:=fun e=>by rw [e] at JU;have:=tW.fh _ _ JU;rw [Rt] at this;cases this
     have s5H:H p5=none:=vT.Ad _ Rt
     obtain ⟨m1,m2,m3,m4,m5⟩:=t4.new Rt
     have UM:F0 p4=none∧p4≠ow.k∧p4≠ow.e∧p4≠ow.l:=by
      have Ji:∀x,ow.has A x→x=p4→F4 p4=some (.lst ((jx n L).map V.int))→False:=fun x hx e hq=>by
       subst e
       rcases Ext.from tW hq with e|e
       ·rcases Ext.from jb (ic _ _ e) with e3|e3
        ·have e4:(fun y=>y=tp) x:=xV (p:=fun x=>x=tp) e3
         have e4:x=tp:=e4
         exact otp (e4▸hx)
        ·exact t1.has hx e3
       ·exact t3.has hx e
      refine ⟨?_,fun e=>Ji _ (.inr (.inr (.inl rfl))) e.symm JU,fun e=>Ji _ (.inr (.inr (.inr (.inl rfl)))) e.symm JU,fun e=>Ji _ (.inr (.inr (.inr (.inr rfl)))) e.symm JU⟩
      rcases o4 with (e|e)|e
      ·exact t.nf _ e
      ·rw [e];exact ftp
      ·exact same_none t.fh e
     obtain ⟨dx,gs,y1,y2,y3,y4,y5,y6,y7⟩:=t6.ex
     refine ⟨_,rfl,_,rfl,A,C,dx,gs,rfl,y1,W.T.cl,W.T.n,by omega,?_⟩
     have t7:=t6.fn y1 n
     have Gk:=II.put (.inl rfl) (.ins C dx (cW "n" (.int n) gs))
     have h47:upd H6 A (.ins C dx (cW "n" (.int n) gs)) p4=some (.lst (vL x.1)):=by rw [aN (ox (s6 _ _ h4) y1 fun e=>nomatch e)];exact s6 _ _ h4
     have h57:upd H6 A (.ins C dx (cW "n" (.int n) gs)) p5=some (.lst (vL x.2.flatten)):=by rw [aN (ox (s6 _ _ h5) y1 fun e=>nomatch e)];exact s6 _ _ h5
     obtain ⟨dx,gs,y1,y2,y3,y4,y5,y6,y7⟩:=t7.ex
     refine ⟨_,rfl,_,rfl,A,C,dx,gs,rfl,y1,W.T.cl,W.T.cells,by omega,?_⟩
     have t8:=t7.tu y1 h47 UM.1 UM.2
     have Pu:=Gk.fc (p:=p4) o4 (.ins C dx (cW "cells" (.ref p4) gs))
     have h58:=Mw (o:=.ins C dx (cW "cells" (.ref p4) gs)) y1 h57
     obtain ⟨dx,gs,y1,y2,y3,y4,y5,y6,y7⟩:=t8.ex
     refine ⟨_,rfl,_,rfl,A,C,dx,gs,rfl,y1,W.T.cl,W.T.clues,by omega,?_⟩
     have t9:=t8.vF y1 h58 m1 ⟨h45.symm,m4,m5⟩
     have YO:=Pu.fk (p:=p5) (.inr s5H) (.ins C dx (cW "clues" (.ref p5) gs))
     change Ny K (sy 0) (J9 K (kj .nil)) "earlier" _ [some (.ref A),some (.int n),some (.ref tp),some (.ref p3),some (.ref p4),some (.ref p5)] _
     refine jI UJ ay fun z aaK ZJ WJ nz Qy _ dl=>?_
     obtain rfl:=bO dl
     have Mx:=t9.same WJ
     obtain ⟨k1,k2,k3,k4,k5⟩:=t9.new nz
     obtain ⟨dx,gs,y1,y2,y3,y4,y5,y6,y7⟩:=Mx.ex
     refine ⟨_,rfl,A,C,dx,gs,rfl,y1,W.T.cl,W.T.kO,by omega,?_⟩
     have YQ:=Mx.UB y1 Qy k1 ⟨k2,k3,k5⟩
     have UN:=(YO.same WJ).fe (p:=z) (.inr (YO.Ad _ nz)) (.ins C dx (cW "earlier" (.ref z) gs))
     change Ny K (sy 0) (J9 K (kj .nil)) "later" _ [some (.ref A),some (.int n),some (.ref tp),some (.ref p3),some (.ref p4),some (.ref p5)] _
     refine jI UJ ay fun z2 aaL H12 YR UO XW _ dl=>?_
     obtain rfl:=bO dl
     have YS:=YQ.same YR
     obtain ⟨k1,k2,k3,k4,k5⟩:=YQ.new UO
     obtain ⟨dx,gs,y1,y2,y3,y4,y5,y6,y7⟩:=YS.ex
     refine ⟨_,rfl,A,C,dx,gs,rfl,y1,W.T.cl,W.T.later,by omega,?_⟩
     have YT:=YS.Po y1 XW k1 ⟨k2,k3,k4⟩
     have XX:=(UN.same YR).fl (p:=z2) (.inr (UN.Ad _ UO)) (.ins C dx (cW "later" (.ref z2) gs))
     exact jI (ρ:=[some (tD ⟨n,x.1,x.2⟩),none,none,none,none,none]) (aB (YT.den W.T VB) (ao (ao (ao (ao (ao aK)))))) (ai (aM (ai (af rfl) ay) k8) ay) fun p vs H4 s4 np hp _ dl=>hE YT XX s4 np hp dl rfl hz q
    ·have XG:(decide ((-1:Int)∈jx n L)||decide ((-1:Int)∈(eQ n L).map (sgn n)))=true:=by
      rw [cY,decide_eq_true_eq,decide_eq_true_eq]
      by_cases h1:(-1:Int)∈jx n L
      ·exact .inl h1
      ·by_cases h2:(-1:Int)∈(eQ n L).map (sgn n)
       ·exact .inr h2
       ·exact absurd ((uq hF).mpr ⟨h1,h2⟩) hg
     rw [XG,if_pos rfl]
     have ee:lx a n b=(a,aw (-71)):=by
      unfold lx
      rw [if_neg hn,C4 (L:=L) (n:=n) hL.symm fun h=>hg h.2]
     rw [ee] at q
     exact jI UJ (ai bZ ay) fun p vs H4 s4 np hp _ dl=>hE t6 II s4 np hp dl rfl hz q
end Dstart
end
end Tn
namespace Tn
open PySem PySem.Spec PyProof.Rows L2 Mi
structure Made (C:Addr) (H H':Hp) (p:Addr) (w:Own):Prop where
 ex:∃dx gs,H' p=some (.ins C dx gs)∧gs.lookup ("n" : Str)=some (.int (0:Nat))∧gs.lookup ("cells" : Str)=some (.ref w.c)∧gs.lookup ("clues" : Str)=some (.ref w.k)∧gs.lookup ("earlier" : Str)=some (.ref w.e)∧gs.lookup ("later" : Str)=some (.ref w.l)∧gs.length≤20
 c:H' w.c=some (.lst [])
 k:H' w.k=some (.lst [])
 e:H' w.e=some (.lst [])
 l:H' w.l=some (.lst [])
 nw:H w.c=none∧H w.k=none∧H w.e=none∧H w.l=none
 ap:w.Ap
 kp:∀b o,H b=some o→b≠p→H' b=some o
noncomputable def G4 (C:Addr):Sp:=fun vs H Q _=>∃(p dx:Addr),vs=[.ref p]∧H p=some (.ins C dx [])∧∀H' w,Made C H H' p w→Q .gH H'
noncomputable def a0:aE:=⟨⟨0,[],[]⟩,[],[]⟩
theorem Made.town {K:ab} {C x dx:Addr} {F H H':Hp} {w:Own} (m:Made C (upd (upd H dx (.own x)) x (.ins C dx [])) H' x w) (hx:H x=none) (hd:H dx=none) (f:bW F H):TS K C F H' x w a0∧bW H H'∧∀b,w.has x b→H b=none:=by
 have sm:bW H H':=fun b o e=>m.kp b o (by rw [aN (bS e hx),aN (bS e hd)];exact e) (bS e hx)
 have nn:∀b,upd (upd H dx (.own x)) x (.ins C dx []) b=none→H b=none:=fun b e=>by
  by_cases h1:b=x
  ·subst h1;rw [aL] at e;cases e
  ·rw [aN h1] at e
   by_cases h2:b=dx
   ·subst h2;rw [aL] at e;cases e
   ·rw [aN h2] at e;exact e
 have own:∀b,w.has x b→H b=none:=fun b hb=>by
  rcases hb with rfl|rfl|rfl|rfl|rfl
  ·exact hx
  ·exact nn _ m.nw.1
  ·exact nn _ m.nw.2.1
  ·exact nn _ m.nw.2.2.1
  ·exact nn _ m.nw.2.2.2
 exact ⟨⟨m.ex,m.c,m.k,⟨_,m.e,bX⟩,⟨_,m.l,bX⟩,f.trans sm,fun b hb=>same_none f (own b hb),m.ap⟩,sm,own⟩
section
variable {P:Program} {w:World} {K:ab} {mg:Str→Option Value} {base:Heap} {C:Addr} {k:Nat} {f:Addr} {fd:FuncData}
namespace Dinit
noncomputable def nN:List Str:=["self"]
noncomputable abbrev sS:Stmt:=inClass (top 7) 0
theorem sc:aS nN nN (aa sS):=⟨rfl,rfl,rfl,by decide +kernel,rfl,by decide +kernel,by decide +kernel⟩
theorem ok (F:p6 K "__init__" "Town.__init__" sS f fd) (T:pA K C):eS P w K mg base iR (k+1) f fd nN (G4 C):=by
 refine F.ok sc (fun vs H Q E h=>?_) (fun ft A0 outer s H vs Q E hr h=>?_)
 ·obtain ⟨_,_,rfl,_⟩:=h
  rfl
 ·obtain ⟨p,dx,rfl,hp,q⟩:=h
  refine ⟨_,aF (eR (pv 0) sA rfl) (aF (eR (pv 0) (uQ cw) rfl) (aF (eR (pv 0) (uQ cw) rfl) (aF (eR (pv 0) (uQ cw) rfl) (bw (eR (pv 0) (uQ cw) rfl))))),?_⟩
  have hz:(0:Nat)≤sizeLine:=c8 _
  have l0:([]:List (Str×V)).length=0:=rfl
  refine ⟨_,rfl,p,C,dx,[],rfl,hp,T.cl,T.n,by decide,?_⟩
  have g1:=iB ("n" : Str) (.int 0) []
  refine ⟨hz,fun c nc=>⟨_,rfl,p,C,dx,cW "n" (.int 0) [],rfl,?_,T.cl,T.cells,by rw [l0] at g1;omega,?_⟩⟩
  ·rw [aN (bS aL nc),aL]
  have g2:=iB ("cells" : Str) (.ref c) (cW "n" (.int 0) [])
  refine ⟨hz,fun d nd=>⟨_,rfl,p,C,dx,cW "cells" (.ref c) (cW "n" (.int 0) []),rfl,?_,T.cl,T.clues,by rw [l0] at g1;omega,?_⟩⟩
  ·rw [aN (bS aL nd),aL]
  have g3:=iB ("clues" : Str) (.ref d) (cW "cells" (.ref c) (cW "n" (.int 0) []))
  refine ⟨hz,fun e ne=>⟨_,rfl,p,C,dx,cW "clues" (.ref d) (cW "cells" (.ref c) (cW "n" (.int 0) [])),rfl,?_,T.cl,T.kO,by rw [l0] at g1;omega,?_⟩⟩
  ·rw [aN (bS aL ne),aL]
  have g4:=iB ("earlier" : Str) (.ref e) (cW "clues" (.ref d) (cW "cells" (.ref c) (cW "n" (.int 0) [])))
  refine ⟨hz,fun l nl=>⟨_,rfl,p,C,dx,cW "earlier" (.ref e) (cW "clues" (.ref d) (cW "cells" (.ref c) (cW "n" (.int 0) []))),rfl,?_,T.cl,T.later,by rw [l0] at g1;omega,?_⟩⟩
  ·rw [aN (bS aL nl),aL]
  have g5:=iB ("later" : Str) (.ref l) (cW "earlier" (.ref e) (cW "clues" (.ref d) (cW "cells" (.ref c) (cW "n" (.int 0) []))))
  have cp:c≠p:=fun z=>by rw [z,aL] at nc;cases nc
  have dp:d≠p:=fun z=>by rw [z,aL] at nd;cases nd
  have ep:e≠p:=fun z=>by rw [z,aL] at ne;cases ne
  have lp:l≠p:=fun z=>by rw [z,aL] at nl;cases nl
  rw [aN cp] at nc
  rw [aN dp] at nd
  have dc:d≠c:=fun z=>by rw [z,aL] at nd;cases nd
  rw [aN dc,aN dp] at nd
  rw [aN ep] at ne
  have ed:e≠d:=fun z=>by rw [z,aL] at ne;cases ne
  rw [aN ed,aN ep] at ne
  have ec:e≠c:=fun z=>by rw [z,aL] at ne;cases ne
  rw [aN ec,aN ep] at ne
  rw [aN lp] at nl
  have le:l≠e:=fun z=>by rw [z,aL] at nl;cases nl
  rw [aN le,aN lp] at nl
  have ld:l≠d:=fun z=>by rw [z,aL] at nl;cases nl
  rw [aN ld,aN lp] at nl
  have lc:l≠c:=fun z=>by rw [z,aL] at nl;cases nl
  rw [aN lc,aN lp] at nl
  refine q _ ⟨c,d,e,l⟩ ⟨⟨dx,_,aL,?_,?_,?_,?_,?_,by rw [l0] at g1;omega⟩,?_,?_,?_,?_,⟨nc,nd,ne,nl⟩,⟨dc.symm,ec.symm,lc.symm,ed.symm,ld.symm,le.symm⟩,fun b o hb k6=>?_⟩
  ·rw [aU,if_neg (by decide +kernel),aU,if_neg (by decide +kernel),aU,if_neg (by decide +kernel),aU,if_neg (by decide +kernel),aU,if_pos rfl];rfl
  ·rw [aU,if_neg (by decide +kernel),aU,if_neg (by decide +kernel),aU,if_neg (by decide +kernel),aU,if_pos rfl]
  ·rw [aU,if_neg (by decide +kernel),aU,if_neg (by decide +kernel),aU,if_pos rfl]
  ·rw [aU,if_neg (by decide +kernel),aU,if_pos rfl]
  ·rw [aU,if_pos rfl]
  ·rw [aN cp,aN lc.symm,aN cp,aN ec.symm,aN cp,aN dc.symm,aN cp,aL]
  ·rw [aN dp,aN ld.symm,aN dp,aN ed.symm,aN dp,aL]
  ·rw [aN ep,aN le.symm,aN ep,aL]
  ·rw [aN lp,aL]
  ·have k1:=bS hb nc
   have k2:=bS hb nd
   have k3:=bS hb ne
   have k4:=bS hb nl
   rw [aN k6,aN k4,aN k6,aN k3,aN k6,aN k2,aN k6,aN k1,aN k6]
   exact hb
end Dinit
end
end Tn
namespace Tn
open PySem PySem.Spec PyProof.Rows L2 Mi
structure Nw (c:Cc) (C:Addr):Prop where
 ex:∃(f:Addr) (fd:FuncData),Mk c.K C f∧eS c.P c.w c.K c.mg c.base iR c.k f fd ["self"] (G4 C)∧c.mg "Town" = some (.ref C)∧Binds c.K fd ["self"] []
theorem hn {X:Cx} {k:Nat} {C:Addr} {p pos:Pos} {sc:Scope} (N:Nw (Cx.cc X k) C) (G:Good X (k+1)) (hs:X.env.scope=sc) (hg:pY sc "Town" = true):PE X (.Call (.Name "Town" p) [] [] pos) (OS C (G4 C) [] E0 Jd):=by
 subst hs
 obtain ⟨f,fd,M,F,hm,hb⟩:=N.ex
 exact KH M F G.room (gv hg) hm hb .nil K1
noncomputable def join (F G:Hp):Hp:=fun b=>match F b with
 | some o=>some o
 | none=>G b
theorem Ru {F G:Hp}:bW F (join F G):=fun b o e=>by unfold join;rw [e]
theorem xW {F G:Hp} {b:Addr} (h:F b=none):join F G b=G b:=by unfold join;rw [h]
theorem Rv {F G H:Hp} (f:bW F H) (g:bW G H):bW (join F G) H:=fun b o e=>by
 unfold join at e
 cases h:F b with
 | some o'=>rw [h] at e;cases e;exact f _ _ h
 | none=>rw [h] at e;exact g _ _ e
noncomputable def Fu:List D→Option D:=kI (fun x:ag=>[tD x]) (fun x=>cP x) (fun x=>iE (nv x))
theorem Rw {g:ag} (ok:cP g):Fu [tD g]=some (iE (nv g)) :=
 b4 (x:=g) ok fun y h hy=>by injection h with h1 h;rw [dQ hy ok h1]
theorem Rx {α:Type} (f:α→List Nat) (h:∀a,(f a).length≤1):∀l:List α,(l.flatMap f).length≤l.length
 | []=>aY _
 | a::l=>by
  have h1:=h a
  have h2:=Rx f h l
  rw [b_,ax,az]
  omega
theorem Dk (l:List Nat):(Xb.lD l).length≤1:=by
 unfold Xb.lD
 split
 ·omega
 ·exact c8 _
section
variable {P:Program} {w:World} {K:ab} {mg:Str→Option Value} {base:Heap} {C:Addr} {k:Nat} {f:Addr} {fd:FuncData}
namespace Dwwc
noncomputable def nN:List Str:=["town","bare"]
noncomputable def pP:List Str:=["town"]
noncomputable abbrev sS:Stmt:=top 56
theorem sc:aS nN pP (aa sS):=⟨rfl,rfl,rfl,by decide +kernel,rfl,by decide +kernel,by decide +kernel⟩
theorem ok (F:p6 K "ways_without_clues" "ways_without_clues" sS f fd) (W:Wd K mg C) (p:Ps ⟨P,w,K,mg,base,k+1⟩) (N:Nw ⟨P,w,K,mg,base,k⟩ C):eS P w K mg base iR (k+1+1) f fd pP (M0 K 1 Fu):=by
 refine F.ok sc (fun vs H Q E h=>h.1) (fun ft A0 outer s H vs Q E hr h=>?_)
 obtain ⟨hl,F0,ds,d,f0,dl,hg,q⟩:=h
 obtain ⟨g,rfl,ok,rfl⟩:=bj hg
 obtain ⟨v,r,rfl,dv,dr⟩:=bM dl
 obtain rfl:=bO dr
 have G:Good (iz iR P w K mg base nN "ways_without_clues" (aa sS) f ft A0 outer s H E).q5 (k+1):=⟨hr,rfl,sc.nd,W.bl⟩
 have XY:Gl (iz iR P w K mg base nN "ways_without_clues" (aa sS) f ft A0 outer s H E).q5 "list" := gv (by show pY (aa sS) "list" = true;decide +kernel)
 refine ⟨_,aF (dh (i:=1) sc.nd rfl (Or.inl rfl) ((hn (sc:=aa sS) N G rfl (by decide +kernel)))) (aF (eR (pv 1) ((kE (N:=nN) (sc:=aa sS) (.fld (.var 0) "n") G rfl rfl)) rfl)
  (aF (eR (pv 1) (mm iS XY W.bl.list boot_list (br ((kE (N:=nN) (sc:=aa sS) (.fld (.var 0) "cells") G rfl rfl)) cw)) rfl)
  (aF (eR (pv 1) (ye Gi ((kE (N:=nN) (sc:=aa sS) (.lst (x1 (.int 0))) G rfl rfl)) ((kE (N:=nN) (sc:=aa sS) (.un .len (.fld (.var 0) "clues")) G rfl rfl))) rfl)
  (bw (b5 ((kE (N:=nN) (sc:=aa sS) (.call "town_ways" dF (x1 (.var 1))) G rfl rfl))))))),?_⟩
 obtain ⟨R6,Wl,hl3⟩:=ok.G3
 have hz:(1000:Nat)≤sizeLine:=by decide
 intro x UP nx nd k6
 refine ⟨x,UP,rfl,aL,fun H1 w1 m=>⟨rfl,?_⟩⟩
 obtain ⟨t1,s1,_⟩:=m.town (K:=K) (F:=H) nx nd (same_refl H)
 have sl:∀{H2:Hp} {o:Option V},bW H H2→Slots K H2 [some v,o] [some (tD g),none]:=fun s=>aB (cT (f0.trans s) _ _ dv) (ao aK)
 refine g0 (sl s1) (cq (af rfl) (gL g)) fun u H2 s2 du=>?_
 obtain rfl:=bF du
 have t2:=t1.same s2
 obtain ⟨dx,gs,y1,y2,y3,y4,y5,y6,y7⟩:=t2.ex
 refine ⟨_,rfl,x,C,dx,gs,rfl,y1,W.T.cl,W.T.n,by omega,?_⟩
 have t3:=t2.fn y1 g.n
 refine g0 (sl t3.fh) (cq (af rfl) (eP g)) fun u H4 s4 du=>?_
 obtain ⟨p4,rfl,JU⟩:=iK du
 have t4:=t3.same s4
 refine ⟨p4,_,rfl,.inl (fo.of JU),fun z nz=>?_⟩
 obtain ⟨n1,n2,n3,n4,n5⟩:=t4.new nz
 have sz:=eF nz (.lst (vL g.town))
 have t5:=t4.same sz
 obtain ⟨dx,gs,y1,y2,y3,y4,y5,y6,y7⟩:=t5.ex
 refine ⟨_,rfl,x,C,dx,gs,rfl,y1,W.T.cl,W.T.cells,by omega,?_⟩
 have t6:=t5.tu y1 aL n1 ⟨n3,n4,n5⟩
 refine g0 (sl t6.fh) (cE (ai a_ ay)) fun u H7 s7 du=>?_
 obtain ⟨p7,rfl,hp7⟩:=iK (l:=[0]) du
 have t7:=t6.same s7
 refine g0 (sl t7.fh) (fV (cq (af rfl) (oG g)) ig) fun u H8 s8 du=>?_
 obtain rfl:=bF du
 have t8:=t7.same s8
 refine ⟨p7,_,_,rfl,rfl,s8 _ _ hp7,by omega,by omega,by rw [eK];show 1*_≤_;omega,fun z2 UO=>?_⟩
 have e0:(aH (g.clues.flatten.length:Int).toNat (vL [0])).flatten=vL (Xb.z4 g.n).flatten:=by
  rw [ja,Ol,←Wl]
  show (aH g.clues.flatten.length [V.int 0]).flatten=_
  rw [um]
  unfold vL
  rw [Nc];rfl
 rw [e0]
 obtain ⟨m1,m2,m3,m4,m5⟩:=t8.new UO
 have sz2:=eF UO (.lst (vL (Xb.z4 g.n).flatten))
 have t9:=t8.same sz2
 obtain ⟨dx,gs,y1,y2,y3,y4,y5,y6,y7⟩:=t9.ex
 refine ⟨_,rfl,x,C,dx,gs,rfl,y1,W.T.cl,W.T.clues,by omega,?_⟩
 have Mx:=t9.vF y1 aL m1 ⟨m2,m4,m5⟩
 have YU:cP ({ g with clues:=Xb.z4 g.n }:ag):=zk ok
 have nF:∀b,Own.has _ x b→F0 b=none:=fun b hb=>same_none f0 (Mx.nf b hb)
 have dn:Den K (join F0 (lim _ x _)) (tD ({ g with clues:=Xb.z4 g.n }:ag)) (.ref x):=Mx.Oo W.T YU ((xW (nF _ (.inl rfl))).trans (if_pos (.inl rfl))) ((xW (nF _ (.inr (.inl rfl)))).trans (if_pos (.inr (.inl rfl)))) ((xW (nF _ (.inr (.inr (.inl rfl))))).trans (if_pos (.inr (.inr rfl))))
 refine ⟨_,[none,some (tD ({ g with clues:=Xb.z4 g.n }:ag))],_,Rv (f0.trans Mx.fh) qR,ao (aB dn aK),aM (ai (af rfl) ay) (gb YU),fun u F2 H11 ex du=>q u F2 H11 ⟨Mx.fh.trans ex.hh,Ru.trans ex.ff,ex.fh,fun b h1 h2=>?_⟩ du⟩
 refine ex.nw b ?_ (CC Mx.fh h2)
 rw [xW h1]
 cases hl:lim _ x _ b with
 | none=>rfl
 | some o =>
  exfalso
  rcases Ms hl with e|e|e
  ·exact h2 (Mx.nf b (.inl e))
  ·exact h2 (Mx.nf b (.inr (.inl e)))
  ·exact h2 (Mx.nf b (.inr (.inr (.inl e))))
end Dwwc
namespace Dneed
noncomputable def nN:List Str:=["town","told","full","needed","cells"]
noncomputable def pP:List Str:=["town","told"]
noncomputable abbrev sS:Stmt:=top 55
theorem sc:aS nN pP (aa sS):=⟨rfl,rfl,rfl,by decide +kernel,rfl,by decide +kernel,by decide +kernel⟩
theorem ok (F:p6 K "needed_places" "needed_places" sS f fd) (W:Wd K mg C) (p:Ps ⟨P,w,K,mg,base,k+1⟩) (N:Nw ⟨P,w,K,mg,base,k⟩ C) (hw:fY ⟨P,w,K,mg,base,k+1⟩ "ways_without_clues" Fu):eS P w K mg base iR (k+1+1) f fd pP (M0 K 2 gZ):=by
 refine F.ok sc (fun vs H Q E h=>h.1) (fun ft A0 outer s H vs Q E hr h=>?_)
 obtain ⟨hl,F0,ds,d,f0,dl,hg,q⟩:=h
 obtain ⟨⟨g,T⟩,rfl,ok,rfl⟩:=bj hg
 have ok:cP g:=ok
 obtain ⟨v,r,rfl,dv,dr⟩:=bM dl
 obtain ⟨v1,r,rfl,XZ,dr⟩:=bM dr
 obtain rfl:=bO dr
 have dv:Den K F0 (tD g) v:=dv
 have XZ:Den K F0 (.lst (T.map oq)) v1:=XZ
 have G:Good (iz iR P w K mg base nN "needed_places" (aa sS) f ft A0 outer s H E).q5 (k+1):=⟨hr,rfl,sc.nd,W.bl⟩
 refine ⟨_,aF (dh (i:=2) sc.nd rfl (Or.inl rfl) ((hn (sc:=aa sS) N G rfl (by decide +kernel)))) (aF (eR (pv 2) ((kE (N:=nN) (sc:=aa sS) (.fld (.var 0) "n") G rfl rfl)) rfl)
  (aF (dh (i:=3) sc.nd rfl (Or.inl rfl) ((tH (N:=nN) (sc:=aa sS) .nil G rfl rfl)))
  (aF (Kw PassesOwn.never rfl (Hq ((kE (N:=nN) (sc:=aa sS) (.call "ways_without_clues" Fu (x1 (.var 0))) G rfl rfl))) (xw (i:=4) sc.nd rfl (Or.inl rfl))
   (aF (eR (pv 2) (pv 4) rfl) (bw (jm (tR PySem.F.plainAttrs_list PySem.F.slot_list_extend PySem.F.type_list_extend uR (pv 3) (br ((kE (N:=nN) (sc:=aa sS) (.call "only_wrong" j5 (x2 (.var 2) (.var 1))) G rfl rfl)) cw))))))
  (bw (b5 (pv 3)))))),?_⟩
 have hz:(1000:Nat)≤sizeLine:=by decide
 intro x UP nx nd k6
 refine ⟨x,UP,rfl,aL,fun H1 w1 m=>⟨rfl,?_⟩⟩
 obtain ⟨t1,s1,_⟩:=m.town (K:=K) (F:=H) nx nd (same_refl H)
 refine g0 (ρ:=[some (tD g),none,none,none,none]) (aB (cT (f0.trans s1) _ _ dv) (ao (ao (ao (ao aK))))) (cq (af rfl) (gL g)) fun u H2 s2 du=>?_
 obtain rfl:=bF du
 have t2:=t1.same s2
 obtain ⟨dx,gs,y1,y2,y3,y4,y5,y6,y7⟩:=t2.ex
 refine ⟨_,rfl,x,C,dx,gs,rfl,y1,W.T.cl,W.T.n,by omega,?_⟩
 have t3:=t2.fn y1 g.n
 change wo (J9 K (kj .nil)) (lA 3) _ [some v,some v1,some (.ref x),none,none] _
 refine jI (ρ:=[none,none,none,none,none]) (ao (ao (ao (ao (ao aK))))) ay fun z us H4 s4 nz VA _ dl4=>?_
 obtain rfl:=bO dl4
 have t4:=t3.same s4
 have Hz:H z=none:=same_none t3.fh nz
 have YV:x≠z:=fun e=>t3.has (.inl e.symm) nz
 refine ⟨F0,[some (tD g),none,none,none,none],_,f0.trans t4.fh,aB dv (ao (ao (ao (ao aK)))),aM (ai (af rfl) ay) (Rw ok),fun u F5 H5 ex du=>?_⟩
 have t5:=t4.same ex.hh
 obtain ⟨X0,l,us,rfl,UL,YW⟩:=dd du
 have Fx:F5 x=none:=ex.nw x (same_none f0 nx) (t4.has (.inl rfl))
 have Fz:F5 z=none:=ex.nw z (same_none f0 Hz) (by rw [VA];exact fun e=>nomatch e)
 have Vf:us.length=(nv g).length:=by have:=bP YW;rw [ah] at this;exact this.symm
 obtain ⟨dx,gs,y1,y2,y3,y4,y5,y6,y7⟩:=t5.ex
 let B:List Nat→List Nat:=fun wy=>Xb.lD (mK g.n wy T)
 refine ⟨l,rfl,⟨us,fo.of (ex.fh _ _ UL)⟩,Ky (K:=K) (a:=l) (xs:=us) (fun i σ H'=>∃(v4:Option V) (gs:List (Str×V)) (cu:V),σ=[some v,some v1,some (.ref x),some (.ref z),v4]∧H' x=some (.ins C dx gs)∧gs.lookup ("n" : Str)=some (.int g.n)∧gs.lookup ("cells" : Str)=some cu∧gs.length≤20∧H' z=some (.lst (vL (((nv g).take i).flatMap B)))∧bW F5 H'∧bW H H')
  ⟨none,gs,_,rfl,y1,y2,y3,y7,ex.hh _ _ VA,ex.fh,t5.fh⟩ (fun i σ H' _ ⟨_,_,_,_,_,_,_,_,_,s7,_⟩=>fo.of (s7 _ _ UL)) ?_ ?_⟩
 ·rintro i y σ H6 hi ⟨v4,gs,cu,rfl,YX,YY,YZ,Y0,VC,s6,X1⟩
  obtain ⟨dy,ey,dyn⟩:=HM YW hi
  have Y1:i < (nv g).length:=by rw [←Vf];exact (cv.mp hi).1
  rw [b8,au Y1] at ey
  have ey:iL (nv g)[i]=dy:=bC.inj ey
  subst ey
  obtain ⟨pw,rfl,Y2⟩:=iK dyn
  generalize X2:(nv g)[i]=wy at Y2
  have QG:wy.length=g.n*g.n:=by
   have:=(qA (zk ok) wy (by rw [←X2];exact cS _)).1
   exact this
  refine ⟨_,rfl,_,rfl,x,C,dx,gs,rfl,YX,W.T.cl,W.T.cells,by omega,?_⟩
  have s7:bW F5 (upd H6 x (.ins C dx (cW "cells" (.ref pw) gs))):=j6 s6 Fx _
  have Y3:bW H (upd H6 x (.ins C dx (cW "cells" (.ref pw) gs))):=j6 X1 nx _
  have Y4:upd H6 x (.ins C dx (cW "cells" (.ref pw) gs)) z=some (.lst (vL (((nv g).take i).flatMap B))):=by rw [aN (Ne.symm YV)];exact VC
  have Y5:(cW "cells" (.ref pw) gs).lookup ("n" : Str)=some (.int g.n):=by rw [aU,if_neg (by decide +kernel)];exact YY
  have Y6:(cW "cells" (.ref pw) gs).lookup ("cells" : Str)=some (.ref pw):=by rw [aU,if_pos rfl]
  have aaQ:wy.length≤16:=by have:=ok.hi;have h2:=kZ this this;omega
  have df:Den K (upd H6 x (.ins C dx (cW "cells" (.ref pw) gs))) (fD g.n wy) (.ref x):=zl aL W.T.cl (g8 W.T.n Y5 (g8 W.T.cells Y6 uv)) (bD (bR _) (bD (oa (s7 _ _ Y2) (by omega)) bX))
  refine ⟨_,rfl,.inl ⟨rfl,_,fo.of Y4⟩,?_⟩
  refine g0 (ρ:=[none,some (.lst (T.map oq)),some (fD g.n wy),none,none]) (ao (aB (cT (f0.trans Y3) _ _ XZ) (aB df (ao (ao aK))))) (aM (ai (af rfl) (ai (af rfl) ay)) (AM ok.lo ok.hi QG)) fun u H8 s8 du=>?_
  obtain ⟨b,rfl,hb⟩:=iK du
  have hlen:(((nv g).take i).flatMap B).length≤i:=aP (Rx B (fun _=>Dk _) _) (by rw [c0];omega)
  rw [ah] at X0
  refine ⟨z,b,_,_,rfl,rfl,s8 _ _ Y4,hb,by rw [eK,eK];have:=Dk (mK g.n wy T);omega,?_⟩
  refine ⟨_,_,_,rfl,?_,Y5,Y6,by rw [zm YZ];exact Y0,?_,j6 (s7.trans s8) Fz _,j6 (Y3.trans s8) Hz _⟩
  ·rw [aN YV];exact s8 _ _ aL
  ·rw [aL]
   have e:(nv g).take (i+1)=(nv g).take i++[wy]:=by rw [←X2,List.take_succ_eq_append_getElem Y1]
   rw [e,MP]
   unfold vL
   rw [bq]
   simp [B]
 ·rintro σ H6 ⟨v4,gs,cu,rfl,YX,YY,YZ,Y0,VC,s6,X1⟩
  rw [Vf,List.take_length] at VC
  refine ⟨_,rfl,?_⟩
  have O9:=Ext.add f0 X1 Hz VC
  rw [ah] at X0
  exact q _ _ H6 O9 (gA (by rw [ah];exact aP (Rx B (fun _=>Dk _) _) X0) aL (mM _))
end Dneed
noncomputable def G5 (K:ab):Sp:=fun vs H Q _=>∃(v:V) (j:Nat) (F:Hp) (g:ag),vs=[v,.int j]∧bW F H∧Den K F (tD g) v∧cP g∧j < 4∧∀p H',bW H H'→H p=none→H' p=some (.lst (vL (fj g j)))→Q (.ref p) H'
namespace Dedge
noncomputable def nN:List Str:=["town","side","clues","i"]
noncomputable def pP:List Str:=["town","side"]
noncomputable abbrev sS:Stmt:=top 100
theorem sc:aS nN pP (aa sS):=⟨rfl,rfl,rfl,by decide +kernel,rfl,by decide +kernel,by decide +kernel⟩
noncomputable abbrev eC:E:=.comp (.nm 3) (.pW (.fld (.var 0) "n")) .no (.call "line_clue" cb (x3 (.var 0) (.var 1) (.var 3)))
theorem ok (F:p6 K "edge_line" "edge_line" sS f fd) (W:Wd K mg C) (p:Ps ⟨P,w,K,mg,base,k⟩):eS P w K mg base iR (k+1) f fd pP (G5 K):=by
 refine F.ok sc (fun vs H Q E h=>?_) (fun ft A0 outer s H vs Q E hr h=>?_)
 ·obtain ⟨_,_,_,_,rfl,_⟩:=h
  rfl
 ·obtain ⟨v,j,F0,g,rfl,f0,dv,ok,hj,q⟩:=h
  have G:Good (iz iR P w K mg base nN "edge_line" (aa sS) f ft A0 outer s H E).q5 k:=⟨hr,rfl,sc.nd,W.bl⟩
  refine ⟨_,aF (XE (N:=nN) (sc:=aa sS) (.asg 2 eC []) G (fun _=>rfl) PassesOwn.never rfl rfl (by simp only [dz,cD,iA,il,hZ,cZ,and_true,true_and,and_self]<;>(repeat' apply And.intro)<;>first|assumption|exact W.fm|exact W.eJ|exact W.dN|exact W.gD|exact W.gh|exact W.jl|exact W.gQ|exact W.js|exact W.dO|exact W.jy|exact W.lq|exact W.lr|exact W.mN|exact W.j7|exact W.dP|exact W.fF|exact W.lu|exact W.wO|exact W.dU|exact W.iM|exact W.oe|exact W.og|exact W.si|exact W.sj|exact W.Mp|exact W.qK|exact W.qL|exact W.mO|exact W.qM|exact W.mP|exact W.zo|exact W.qN|exact W.mQ|exact W.mR|exact W.qO|exact W.qP|exact W.oh|exact W.sk|exact W.oi|exact W.mS|exact W.oj|exact W.AO|exact W.so|exact W.kP|exact W.qQ|exact W.sq|exact W.om|exact W.Pp|exact p.jt|exact p.ju|exact p.fZ|exact p.dG|exact p.gR|exact p.eU|exact p.dj|exact p.f6|exact p.dW|exact p.eV|exact p.g9|exact p.eW|exact p.eX|exact p.dX|exact p.eY|exact p.eZ|exact p.g_|exact p.hC|exact p.fG) (by decide +kernel))
   (bw (b5 (ye Cw ((kE (N:=nN) (sc:=aa sS) (.op .add (.lst (x1 (.gl "BLANK" (.int 32)))) (.call "signs_of" iJ (x1 (.var 2)))) G rfl rfl)) ((kE (N:=nN) (sc:=aa sS) (.lst (x2 (.gl "BLANK" (.int 32)) (.gl "LINE_END" (.int 10)))) G rfl rfl))))),?_⟩
  have hz:(1000:Nat)≤sizeLine:=by decide
  have hn:=ok.hi
  obtain ⟨p1,p2⟩:=tj (k:=j) ok hj
  refine ⟨F0,H,F0,[.fz (tD g),.fz (iN j),.no,.no],.nx [.fz (tD g),.fz (iN j),.fz (iL (dM g j)),.no],u9 (ds:=[tD g,iN j]) f0 (bD dv (bD (bR _) bX)),?_,fun F1 H1 OQ _ S1=>?_⟩
  ·simp only [uI]
   rw [show bH eC (view (freeze [] [.fz (tD g),.fz (iN j),.no,.no]))=some (iL (dM g j)) from p1]
   rfl
  ·refine ⟨F1,_,_,S1.ext.fh,S1.slots,p2,fun u F2 H2 jb du=>?_⟩
   obtain ⟨a1,rfl,h1⟩:=iK du
   refine ⟨F2,_,_,jb.fh,S1.slots.mono jb.ff,Fe,fun u F3 H3 xE du=>?_⟩
   obtain ⟨a2,rfl,h2⟩:=iK du
   refine ⟨a1,a2,_,_,rfl,rfl,xE.fh _ _ (xE.ff _ _ h1),xE.fh _ _ h2,?_,fun z nz=>?_⟩
   ·rw [eK,eK,az,ah,zp];show _+1+2≤_;omega
   ·have e:vL (32::(dM g j).map fX)++vL [32,10]=vL (fj g j):=by
     unfold vL fj dM
     rw [←bq,ba];rfl
    rw [e]
    have sH:bW H H3:=(S1.ext.hh.trans jb.hh).trans xE.hh
    exact q z _ (sH.trans (eF nz _)) (same_none sH nz) aL
end Dedge
namespace Dtext
noncomputable def nN:List Str:=["town","text","i"]
noncomputable def pP:List Str:=["town"]
noncomputable abbrev sS:Stmt:=top 99
theorem sc:aS nN pP (aa sS):=⟨rfl,rfl,rfl,by decide +kernel,rfl,by decide +kernel,by decide +kernel⟩
theorem ok (F:p6 K "answer_text" "answer_text" sS f fd) (W:Wd K mg C) (p:Ps ⟨P,w,K,mg,base,k⟩) (he:rB ⟨P,w,K,mg,base,k⟩ "edge_line" ["town","side"] (G5 K)):eS P w K mg base iR (k+1) f fd pP (M0 K 1 (Ac .text)):=by
 refine F.ok sc (fun vs H Q E h=>h.1) (fun ft A0 outer s H vs Q E hr h=>?_)
 obtain ⟨hl,F0,ds,d,f0,dl,hg,q⟩:=h
 obtain ⟨g,rfl,ok,rfl⟩:=bj hg
 obtain ⟨v,r,rfl,dv,dr⟩:=bM dl
 obtain rfl:=bO dr
 have G:Good (iz iR P w K mg base nN "answer_text" (aa sS) f ft A0 outer s H E).q5 k:=⟨hr,rfl,sc.nd,W.bl⟩
 refine ⟨_,aF (dh (i:=1) sc.nd rfl (Or.inl rfl) ((hc (sc:=aa sS) (k:=k) he G rfl (by decide +kernel) (br (pv 0) (br ((kE (N:=nN) (sc:=aa sS) (.gl "ABOVE" (.int 0)) G rfl rfl)) cw)) rfl rfl)))
  (XF (N:=nN) (sc:=aa sS) mJ G (fun _=>rfl) PassesOwn.never rfl rfl (by unfold mJ kz;simp only [dz,cD,iA,il,hZ,cZ,and_true,true_and,and_self]<;>(repeat' apply And.intro)<;>first|assumption|exact W.fm|exact W.eJ|exact W.dN|exact W.gD|exact W.gh|exact W.jl|exact W.gQ|exact W.js|exact W.dO|exact W.jy|exact W.lq|exact W.lr|exact W.mN|exact W.j7|exact W.dP|exact W.fF|exact W.lu|exact W.wO|exact W.dU|exact W.iM|exact W.oe|exact W.og|exact W.si|exact W.sj|exact W.Mp|exact W.qK|exact W.qL|exact W.mO|exact W.qM|exact W.mP|exact W.zo|exact W.qN|exact W.mQ|exact W.mR|exact W.qO|exact W.qP|exact W.oh|exact W.sk|exact W.oi|exact W.mS|exact W.oj|exact W.AO|exact W.so|exact W.kP|exact W.qQ|exact W.sq|exact W.om|exact W.Pp|exact p.jt|exact p.ju|exact p.fZ|exact p.dG|exact p.gR|exact p.eU|exact p.dj|exact p.f6|exact p.dW|exact p.eV|exact p.g9|exact p.eW|exact p.eX|exact p.dX|exact p.eY|exact p.eZ|exact p.g_|exact p.hC|exact p.fG) (by decide +kernel)),?_⟩
 refine ⟨_,rfl,?_⟩
 refine ⟨F0,[none,none,none],_,f0,ao (ao (ao aK)),bZ,fun u F1 H1 kn du=>?_⟩
 obtain rfl:=bF du
 refine ⟨v,0,F1,g,rfl,kn.fh,cT kn.ff _ _ dv,ok,by decide,fun z H2 s2 nz hz2=>?_⟩
 have sH:bW H H2:=kn.hh.trans s2
 have nH:H z=none:=same_none kn.hh nz
 have F0z:F0 z=none:=same_none f0 nH
 have el:((fj g 0).map iN).length≤sizeLine:=by
  have hn:=ok.hi
  unfold fj
  rw [ah,ax,az,ah,aQ]
  exact aP (show g.n+1+2≤1000 by omega) (by decide)
 refine ⟨F0,H,F0,[.fz (tD g),.ow ((fj g 0).map iN),.no],.rt (dq (told g .text)),⟨⟨sH,same_refl F0,f0.trans sH,fun _ h _=>h⟩,rfl,fun i d e=>?_,fun i l e=>?_,fun i j l m b O7 e1 e2 _ _=>?_⟩,vB ok,fun v F' H' _ ex dn=>q v F' H' ex dn⟩
 ·match i,e with
  | 0,e=>cases e;exact ⟨v,rfl,dv⟩
  | 1,e=>cases e
  | 2,e=>cases e
  | i+3,e=>cases e
 ·match i,e with
  | 0,e=>cases e
  | 1,e=>cases e;exact ⟨z,_,rfl,nH,F0z,hz2,el,mM _⟩
  | 2,e=>cases e
  | i+3,e=>cases e
 ·match i,j,e1,e2 with
  | 1,1,_,_=>exact O7 rfl
  | 0,_,e1,_=>cases e1
  | 2,_,e1,_=>cases e1
  | i+3,_,e1,_=>cases e1
  | 1,0,_,e2=>cases e2
  | 1,2,_,e2=>cases e2
  | 1,j+3,_,e2=>cases e2
end Dtext
end
end Tn
namespace Tn
open PySem PySem.Spec PyProof.Rows L2 Mi
noncomputable def lV (p:Nat):Mr:=match p with
 | 1=>Dbuild.iZ|2=>Dtear.iZ|3=>Dtell.iZ|16=>Dsolve.iZ|17=>Dfill.iZ|20=>Dclear.iZ|21=>Dask.iZ|22=>Dturn.iZ|_=>Dmirror.iZ
noncomputable def Y7 (K:ab) (C:Addr) (ps:List Nat):Sp:=fun vs H Q _=>∃(A gp:Addr) (F:Hp) (w:Own) (a:aE) (p:Nat) (xs:List Nat),vs=[.ref A,.int p,.ref gp]∧TS K C F H A w a∧cP a.now∧F gp=some (.lst (vL xs))∧p∈ps∧xs.length=arity.getD p 0 ∧
 ∀v F' H' w',TS K C F' H' A w' { a with now:=(lV p a.now xs).1 }→kD A F H w F' H' w'→Den K F' (dq (lV p a.now xs).2) v→Q v H'
noncomputable def Y8 (K:ab) (C:Addr) (ps:List Nat):Sp:=fun vs H Q _=>∃(A:Addr) (F:Hp) (w:Own) (a:aE) (p:Nat),vs=[.ref A,.int p]∧TS K C F H A w a∧cP a.now∧p∈ps ∧
 ∀v F' H' w',TS K C F' H' A w' { a with now:=(lV p a.now []).1 }→kD A F H w F' H' w'→Den K F' (dq (lV p a.now []).2) v→Q v H'
structure Cs (c:Cc) (C:Addr):Prop where
 build:rB c "answer_build" Dbuild.nN (DR c.K C 2 Dbuild.iZ)
 tear:rB c "answer_tear" Dtear.pP (DR c.K C 1 Dtear.iZ)
 tell:rB c "answer_tell" Dtell.pP (DR c.K C 3 Dtell.iZ)
 fill:rB c "answer_fill" Dfill.pP (DR c.K C 1 Dfill.iZ)
 solve:rB c "answer_solve" Dsolve.pP (DR c.K C 0 Dsolve.iZ)
 clear:rB c "answer_clear" Dclear.pP (DR c.K C 0 Dclear.iZ)
 ask:rB c "answer_ask" Dask.nN (DR c.K C 0 Dask.iZ)
 turn:rB c "answer_turn" Dturn.pP (DR c.K C 0 Dturn.iZ)
 mirror:rB c "answer_mirror" Dmirror.pP (DR c.K C 0 Dmirror.iZ)
theorem jG {p c:Nat} {x:Str} {ρ:eM} (h:fR ρ 1=some (iN p)):bH (.op .eq (.var 1) (.gl x (.int c))) ρ=some (.bl (decide (p=c))):=bx (af h) bZ (fT (b:=c))
section
variable {P:Program} {w:World} {K:ab} {mg:Str→Option Value} {base:Heap} {C:Addr} {k:Nat} {f:Addr} {fd:FuncData}
noncomputable abbrev tq (x:Str) (j:Nat):E:=.op .eq (.var 1) (.gl x (.int j))
namespace Dgiven
noncomputable def nN:List Str:=["town","call","given"]
noncomputable abbrev sS:Stmt:=top 135
theorem sc:aS nN nN (aa sS):=⟨rfl,rfl,rfl,by decide +kernel,rfl,by decide +kernel,by decide +kernel⟩
noncomputable abbrev gi (j:Int):E:=.ix (.var 2) (.int j)
theorem ok (F:p6 K "answer_given_change" "answer_given_change" sS f fd) (W:Wd K mg C) (p:Ps ⟨P,w,K,mg,base,k⟩) (c:Cs ⟨P,w,K,mg,base,k⟩ C):eS P w K mg base iR (k+1) f fd nN (Y7 K C [1,2,3,17]):=by
 refine F.ok sc (fun vs H Q E h=>?_) (fun ft A0 outer s H vs Q E hr h=>?_)
 ·obtain ⟨_,_,_,_,_,_,_,rfl,_⟩:=h
  rfl
 ·obtain ⟨A,gp,F0,ow,a,n,xs,rfl,t,ok,Ry,hp,hl,q⟩:=h
  have G:Good (iz iR P w K mg base nN "answer_given_change" (aa sS) f ft A0 outer s H E).q5 k:=⟨hr,rfl,sc.nd,W.bl⟩
  refine ⟨_,aF (fS ((tG (N:=nN) (sc:=aa sS) (tq "BUILD" 1) G rfl rfl)) (bw (b5 ((hc (sc:=aa sS) (k:=k) c.build G rfl (by decide +kernel) (br (pv 0) (br ((kE (N:=nN) (sc:=aa sS) (gi 0) G rfl rfl)) (br ((kE (N:=nN) (sc:=aa sS) (gi 1) G rfl rfl)) cw))) rfl rfl)))) c_)
   (aF (fS ((tG (N:=nN) (sc:=aa sS) (tq "TEAR" 2) G rfl rfl)) (bw (b5 ((hc (sc:=aa sS) (k:=k) c.tear G rfl (by decide +kernel) (br (pv 0) (br ((kE (N:=nN) (sc:=aa sS) (gi 0) G rfl rfl)) cw)) rfl rfl)))) c_)
   (aF (fS ((tG (N:=nN) (sc:=aa sS) (tq "TELL" 3) G rfl rfl)) (bw (b5 ((hc (sc:=aa sS) (k:=k) c.tell G rfl (by decide +kernel) (br (pv 0) (br ((kE (N:=nN) (sc:=aa sS) (gi 0) G rfl rfl)) (br ((kE (N:=nN) (sc:=aa sS) (gi 1) G rfl rfl)) (br ((kE (N:=nN) (sc:=aa sS) (gi 2) G rfl rfl)) cw)))) rfl rfl)))) c_)
   (bw (b5 ((hc (sc:=aa sS) (k:=k) c.fill G rfl (by decide +kernel) (br (pv 0) (br ((kE (N:=nN) (sc:=aa sS) (gi 0) G rfl rfl)) cw)) rfl rfl)))))),?_⟩
  have Ae:∀{H1:Hp},Slots K H1 [some (.ref A),some (.int n),some (.ref gp)] [none,some (iN n),none]:=ao (aB (bR _) (ao aK))
  have hlx:xs.length≤3:=by
   simp only [aG,bV,or_false] at hp
   rcases hp with rfl|rfl|rfl|rfl<;>(rw [hl];decide)
  have M1:∀{H1:Hp},bW H H1→Slots K H1 [some (.ref A),some (.int n),some (.ref gp)] [none,none,some (iL xs)]:=fun s=>ao (ao (aB (oa (s _ _ (t.fh _ _ Ry)) (by omega)) aK))
  refine gJ Ae (jG rfl) fun H1 s1=>?_
  simp only [aG,bV,or_false] at hp
  rcases hp with rfl|rfl|rfl|rfl
  ·rw [decide_eq_true rfl,if_pos rfl]
   obtain ⟨x,y,rfl⟩:=Rl hl
   refine ⟨_,rfl,g0 (M1 s1) (eA (af rfl) a_ rfl) fun v H2 s2 dv=>?_⟩
   obtain rfl:=bF dv
   refine g0 (M1 (s1.trans s2)) (eA (af rfl) a_ rfl) fun v H3 s3 dv=>?_
   obtain rfl:=bF dv
   have sH:=(s1.trans s2).trans s3
   exact ⟨A,F0,ow,a,[x,y],rfl,rfl,t.same sH,ok,fun v F' H' w' t' kU dn=>q v F' H' w' t' ((kD.refl.same sH).trans kU) dn⟩
  ·rw [decide_eq_false (by decide),if_neg (by decide)]
   refine gJ Ae (jG rfl) fun H2 s2=>?_
   rw [decide_eq_true rfl,if_pos rfl]
   obtain ⟨x,rfl⟩:=Me hl
   refine ⟨_,rfl,g0 (M1 (s1.trans s2)) (eA (af rfl) a_ rfl) fun v H3 s3 dv=>?_⟩
   obtain rfl:=bF dv
   have sH:=(s1.trans s2).trans s3
   exact ⟨A,F0,ow,a,[x],rfl,rfl,t.same sH,ok,fun v F' H' w' t' kU dn=>q v F' H' w' t' ((kD.refl.same sH).trans kU) dn⟩
  ·rw [decide_eq_false (by decide),if_neg (by decide)]
   refine gJ Ae (jG rfl) fun H2 s2=>?_
   rw [decide_eq_false (by decide),if_neg (by decide)]
   refine gJ Ae (jG rfl) fun H3 s3=>?_
   rw [decide_eq_true rfl,if_pos rfl]
   obtain ⟨x,y,z,rfl⟩:=Vw hl
   have Rz:=(s1.trans s2).trans s3
   refine ⟨_,rfl,g0 (M1 Rz) (eA (af rfl) a_ rfl) fun v H4 s4 dv=>?_⟩
   obtain rfl:=bF dv
   refine g0 (M1 (Rz.trans s4)) (eA (af rfl) a_ rfl) fun v H5 s5 dv=>?_
   obtain rfl:=bF dv
   refine g0 (M1 ((Rz.trans s4).trans s5)) (eA (af rfl) a_ rfl) fun v H6 s6 dv=>?_
   obtain rfl:=bF dv
   have sH:=((Rz.trans s4).trans s5).trans s6
   exact ⟨A,F0,ow,a,[x,y,z],rfl,rfl,t.same sH,ok,fun v F' H' w' t' kU dn=>q v F' H' w' t' ((kD.refl.same sH).trans kU) dn⟩
  ·rw [decide_eq_false (by decide),if_neg (by decide)]
   refine gJ Ae (jG rfl) fun H2 s2=>?_
   rw [decide_eq_false (by decide),if_neg (by decide)]
   refine gJ Ae (jG rfl) fun H3 s3=>?_
   rw [decide_eq_false (by decide),if_neg (by decide)]
   obtain ⟨x,rfl⟩:=Me hl
   have Rz:=(s1.trans s2).trans s3
   refine ⟨_,rfl,g0 (M1 Rz) (eA (af rfl) a_ rfl) fun v H4 s4 dv=>?_⟩
   obtain rfl:=bF dv
   have sH:=Rz.trans s4
   exact ⟨A,F0,ow,a,[x],rfl,rfl,t.same sH,ok,fun v F' H' w' t' kU dn=>q v F' H' w' t' ((kD.refl.same sH).trans kU) dn⟩
end Dgiven
namespace Dwhole
noncomputable def nN:List Str:=["town","call"]
noncomputable abbrev sS:Stmt:=top 136
theorem sc:aS nN nN (aa sS):=⟨rfl,rfl,rfl,by decide +kernel,rfl,by decide +kernel,by decide +kernel⟩
theorem ok (F:p6 K "answer_whole_change" "answer_whole_change" sS f fd) (W:Wd K mg C) (p:Ps ⟨P,w,K,mg,base,k⟩) (c:Cs ⟨P,w,K,mg,base,k⟩ C):eS P w K mg base iR (k+1) f fd nN (Y8 K C [16,20,21,22,23]):=by
 refine F.ok sc (fun vs H Q E h=>?_) (fun ft A0 outer s H vs Q E hr h=>?_)
 ·obtain ⟨_,_,_,_,_,rfl,_⟩:=h
  rfl
 ·obtain ⟨A,F0,ow,a,n,rfl,t,ok,hp,q⟩:=h
  have G:Good (iz iR P w K mg base nN "answer_whole_change" (aa sS) f ft A0 outer s H E).q5 k:=⟨hr,rfl,sc.nd,W.bl⟩
  refine ⟨_,aF (fS ((tG (N:=nN) (sc:=aa sS) (tq "SOLVE" 16) G rfl rfl)) (bw (b5 ((hc (sc:=aa sS) (k:=k) c.solve G rfl (by decide +kernel) (br (pv 0) cw) rfl rfl)))) c_)
   (aF (fS ((tG (N:=nN) (sc:=aa sS) (tq "CLEAR" 20) G rfl rfl)) (bw (b5 ((hc (sc:=aa sS) (k:=k) c.clear G rfl (by decide +kernel) (br (pv 0) cw) rfl rfl)))) c_)
   (aF (fS ((tG (N:=nN) (sc:=aa sS) (tq "ASK" 21) G rfl rfl)) (bw (b5 ((hc (sc:=aa sS) (k:=k) c.ask G rfl (by decide +kernel) (br (pv 0) cw) rfl rfl)))) c_)
   (aF (fS ((tG (N:=nN) (sc:=aa sS) (tq "TURN" 22) G rfl rfl)) (bw (b5 ((hc (sc:=aa sS) (k:=k) c.turn G rfl (by decide +kernel) (br (pv 0) cw) rfl rfl)))) c_)
   (bw (b5 ((hc (sc:=aa sS) (k:=k) c.mirror G rfl (by decide +kernel) (br (pv 0) cw) rfl rfl))))))),?_⟩
  have Ae:∀{H1:Hp},Slots K H1 [some (.ref A),some (.int n)] [none,some (iN n)]:=ao (aB (bR _) aK)
  refine gJ Ae (jG rfl) fun H1 s1=>?_
  simp only [aG,bV,or_false] at hp
  rcases hp with rfl|rfl|rfl|rfl|rfl
  ·rw [decide_eq_true rfl,if_pos rfl]
   exact ⟨_,rfl,A,F0,ow,a,[],rfl,rfl,t.same s1,ok,fun v F' H' w' t' kU dn=>q v F' H' w' t' ((kD.refl.same s1).trans kU) dn⟩
  ·rw [decide_eq_false (by decide),if_neg (by decide)]
   refine gJ Ae (jG rfl) fun H2 s2=>?_
   rw [decide_eq_true rfl,if_pos rfl]
   have sH:=s1.trans s2
   exact ⟨_,rfl,A,F0,ow,a,[],rfl,rfl,t.same sH,ok,fun v F' H' w' t' kU dn=>q v F' H' w' t' ((kD.refl.same sH).trans kU) dn⟩
  ·rw [decide_eq_false (by decide),if_neg (by decide)]
   refine gJ Ae (jG rfl) fun H2 s2=>?_
   rw [decide_eq_false (by decide),if_neg (by decide)]
   refine gJ Ae (jG rfl) fun H3 s3=>?_
   rw [decide_eq_true rfl,if_pos rfl]
   have sH:=(s1.trans s2).trans s3
   exact ⟨_,rfl,A,F0,ow,a,[],rfl,rfl,t.same sH,ok,fun v F' H' w' t' kU dn=>q v F' H' w' t' ((kD.refl.same sH).trans kU) dn⟩
  ·rw [decide_eq_false (by decide),if_neg (by decide)]
   refine gJ Ae (jG rfl) fun H2 s2=>?_
   rw [decide_eq_false (by decide),if_neg (by decide)]
   refine gJ Ae (jG rfl) fun H3 s3=>?_
   rw [decide_eq_false (by decide),if_neg (by decide)]
   refine gJ Ae (jG rfl) fun H4 s4=>?_
   rw [decide_eq_true rfl,if_pos rfl]
   have sH:=((s1.trans s2).trans s3).trans s4
   exact ⟨_,rfl,A,F0,ow,a,[],rfl,rfl,t.same sH,ok,fun v F' H' w' t' kU dn=>q v F' H' w' t' ((kD.refl.same sH).trans kU) dn⟩
  ·rw [decide_eq_false (by decide),if_neg (by decide)]
   refine gJ Ae (jG rfl) fun H2 s2=>?_
   rw [decide_eq_false (by decide),if_neg (by decide)]
   refine gJ Ae (jG rfl) fun H3 s3=>?_
   rw [decide_eq_false (by decide),if_neg (by decide)]
   refine gJ Ae (jG rfl) fun H4 s4=>?_
   rw [decide_eq_false (by decide),if_neg (by decide)]
   have sH:=((s1.trans s2).trans s3).trans s4
   exact ⟨_,rfl,A,F0,ow,a,[],rfl,rfl,t.same sH,ok,fun v F' H' w' t' kU dn=>q v F' H' w' t' ((kD.refl.same sH).trans kU) dn⟩
end Dwhole
noncomputable def wR (p:Nat) (a:aE) (xs:List Nat):aE×aW :=
 if 0≤(lV p a.now xs).2.ret then (⟨(lV p a.now xs).1,(a.now::a.undo).take 20,[]⟩,(lV p a.now xs).2) else ({ a with now:=(lV p a.now xs).1 },(lV p a.now xs).2)
noncomputable def zq:List Nat:=[1,2,3,16,17,20,21,22,23]
noncomputable def Y9 (K:ab) (C:Addr):Sp:=fun vs H Q _=>∃(A gp:Addr) (F:Hp) (w:Own) (a:aE) (p:Nat) (xs:List Nat),vs=[.ref A,.int p,.ref gp]∧TS K C F H A w a∧Mt a∧F gp=some (.lst (vL xs))∧p∈zq∧xs.length=arity.getD p 0 ∧
 ∀v F' H' w',TS K C F' H' A w' (wR p a xs).1→kD A F H w F' H' w'→Den K F' (dq (wR p a xs).2) v→Q v H'
theorem G6 {n:Nat} {ds:List D} {l:List Nat} (h:ds=l.map iN):i9 .isin (iN n) (.tup ds)=some (.bl (decide (n∈l))):=by
 subst h
 show ((intsOf (l.map iN)).bind fun y=>some (decide ((n:Int)∈y))).bind (fun c=>some (D.bl c))=_
 rw [gN]
 show some (D.bl (decide ((n:Int)∈l.map fun x:Nat=>(x:Int))))=_
 rw [uf]
namespace Dchange
noncomputable def nN:List Str:=["town","call","given","before","answer"]
noncomputable def pP:List Str:=["town","call","given"]
noncomputable abbrev sS:Stmt:=top 134
theorem sc:aS nN pP (aa sS):=⟨rfl,rfl,rfl,by decide +kernel,rfl,by decide +kernel,by decide +kernel⟩
noncomputable abbrev e4:E:=.op .isin (.var 1) (.tup (.cons (.gl "BUILD" (.int 1)) (x3 (.gl "TEAR" (.int 2)) (.gl "TELL" (.int 3)) (.gl "FILL" (.int 17)))))
theorem ok (F:p6 K "answer_change" "answer_change" sS f fd) (W:Wd K mg C) (p:Ps ⟨P,w,K,mg,base,k⟩) (hm:rB ⟨P,w,K,mg,base,k⟩ "moment_of" ["town"] (Fo K C)) (hr1:rB ⟨P,w,K,mg,base,k⟩ "remember" ["town","before"] (IK K C))
  (hg:rB ⟨P,w,K,mg,base,k⟩ "answer_given_change" Dgiven.nN (Y7 K C [1,2,3,17])) (hw:rB ⟨P,w,K,mg,base,k⟩ "answer_whole_change" Dwhole.nN (Y8 K C [16,20,21,22,23])):eS P w K mg base iR (k+1) f fd pP (Y9 K C):=by
 refine F.ok sc (fun vs H Q E h=>?_) (fun ft A0 outer s H vs Q E hr h=>?_)
 ·obtain ⟨_,_,_,_,_,_,_,rfl,_⟩:=h
  rfl
 ·obtain ⟨A,gp,F0,ow,a,n,xs,rfl,t,wf,Ry,hp,hl,q⟩:=h
  have G:Good (iz iR P w K mg base nN "answer_change" (aa sS) f ft A0 outer s H E).q5 k:=⟨hr,rfl,sc.nd,W.bl⟩
  refine ⟨_,aF (dh (i:=3) sc.nd rfl (Or.inl rfl) ((hc (sc:=aa sS) (k:=k) hm G rfl (by decide +kernel) (br (pv 0) cw) rfl rfl)))
   (aF (fS ((tG (N:=nN) (sc:=aa sS) e4 G rfl rfl)) (bw (dh (i:=4) sc.nd rfl (Or.inl rfl) ((hc (sc:=aa sS) (k:=k) hg G rfl (by decide +kernel) (br (pv 0) (br (pv 1) (br (pv 2) cw))) rfl rfl)))) (bw (dh (i:=4) sc.nd rfl (Or.inl rfl) ((hc (sc:=aa sS) (k:=k) hw G rfl (by decide +kernel) (br (pv 0) (br (pv 1) cw)) rfl rfl)))))
   (aF (fS ((tG (N:=nN) (sc:=aa sS) (.op .ge (.ix (.var 4) (.int 0)) (.int 0)) G rfl rfl)) (bw (jm ((hc (sc:=aa sS) (k:=k) hr1 G rfl (by decide +kernel) (br (pv 0) (br (pv 3) cw)) rfl rfl)))) c_)
   (bw (b5 (pv 4))))),?_⟩
  refine ⟨_,rfl,A,F0,ow,a,rfl,t,wf.now,fun vb F1 H1 kn db=>?_⟩
  have t1:=t.ext kn
  have ot:kD A F0 H ow F1 H1 ow:=kD.refl.ext kn
  have e4v:∀{ρ:eM},fR ρ 1=some (iN n)→bH e4 ρ=some (.bl (decide (n∈[1,2,3,17]))):=fun h=>bx (af h) (ud (ai bZ (ai bZ (ai bZ (ai bZ ay))))) (G6 rfl)
  refine gJ (ρ:=[none,some (iN n),none,none,none]) (ao (aB (bR _) (ao (ao (ao aK))))) (e4v rfl) fun H2 s2=>?_
  have t2:=t1.same s2
  have rL:=ot.same s2
  have fin:∀va F3 H3 w3,TS K C F3 H3 A w3 { a with now:=(lV n a.now xs).1 }→kD A F1 H2 ow F3 H3 w3→Den K F3 (dq (lV n a.now xs).2) va →
    Nk (Sn (tV K fun ρ=>(bH (.op .ge (.ix (.var 4) (.int 0)) (.int 0)) ρ).bind fU) (DY (Hx (IK K C) [] E0 (D4 (sy 0) (D4 (sy 3) Jd)))) Ko) (Sm (sy 4)) { nx:=fun _ H'=>Q .gH H',rt:=Q } [some (.ref A),some (.int n),some (.ref gp),some vb,some va] H3:=fun va F3 H3 w3 t3 oP da=>by
   have X3:=rL.trans oP
   refine gJ (ρ:=[none,none,none,none,some (dq (lV n a.now xs).2)]) (ao (ao (ao (ao (aB (cT t3.fh _ _ da) aK))))) (bx (eA (af rfl) a_ (show Gn (dq (lV n a.now xs).2) (.int 0)=some (.int (lV n a.now xs).2.ret) from rfl)) a_ rfl) fun H4 s4=>?_
   have t4:=t3.same s4
   have vT:=X3.same s4
   by_cases NP:0≤(lV n a.now xs).2.ret
   ·rw [decide_eq_true NP,if_pos rfl]
    have ee:wR n a xs=(⟨(lV n a.now xs).1,(a.now::a.undo).take 20,[]⟩,(lV n a.now xs).2):=if_pos NP
    rw [ee] at q
    have wQ:=wf.wQ
    refine ⟨_,rfl,_,rfl,A,vb,F3,w3,_,a.now,rfl,t4,cT oP.ff _ _ db,(show a.undo.length≤20 by omega),fun H5 w5 t5 uN=>?_⟩
    exact ⟨_,rfl,q va F3 H5 w5 t5 (vT.trans uN) da⟩
   ·rw [decide_eq_false NP,if_neg (by decide)]
    have ee:wR n a xs=({ a with now:=(lV n a.now xs).1 },(lV n a.now xs).2):=if_neg NP
    rw [ee] at q
    exact ⟨_,rfl,q va F3 H4 w3 t4 vT da⟩
  by_cases Ji:n∈[1,2,3,17]
  ·rw [decide_eq_true Ji,if_pos rfl]
   exact ⟨_,rfl,_,rfl,_,rfl,A,gp,F1,ow,a,n,xs,rfl,t2,wf.now,kn.ff _ _ Ry,Ji,hl,fun v F' H' w' t' kU dn=>fin v F' H' w' t' kU dn⟩
  ·rw [decide_eq_false Ji,if_neg (by decide)]
   have IH:n∈[16,20,21,22,23]:=by
    unfold zq at hp
    simp only [aG,bV,or_false,not_or] at hp Ji ⊢
    omega
   have hx:xs=[]:=by
    simp only [aG,bV,or_false] at IH
    rcases IH with rfl|rfl|rfl|rfl|rfl<;>exact G2 hl
   subst hx
   exact ⟨_,rfl,_,rfl,A,F1,ow,a,n,rfl,t2,wf.now,IH,fun v F' H' w' t' kU dn=>fin v F' H' w' t' kU dn⟩
end Dchange
end
end Tn
namespace Tn
open PySem PySem.Spec PyProof.Rows L2 Mi
noncomputable def qS (s:Option aE):aE:=s.getD a0
noncomputable def Ov:Option aE→Prop
 | none=>True
 | some a=>Mt a
theorem JV {l:List Nat} {c h:Nat} (h0:l.getD c 0=0) (hh:h≠0):aD l≤aD (l.set c h):=by
 by_cases hc:c < l.length
 ·rw [rC hc h0 hh];omega
 ·rw [List.set_eq_of_length_le (by omega)];exact aY _
theorem vH {n:Nat} {c:J2}:∀(f:Nat) (t:vN),(∀x∈t,x≤n)→aD t≤aD (dH n c f t)∧(dH n c f t).length=t.length∧∀x∈dH n c f t,x≤n
 | 0,t,h=>⟨aY _,rfl,h⟩
 | f+1,t,h=>by
  unfold dH
  by_cases hs:fg n t c=true
  ·rw [if_pos hs];exact ⟨aY _,rfl,h⟩
  ·rw [if_neg hs]
   cases hh:fW n t c with
   | none=>exact ⟨aY _,rfl,h⟩
   | some x =>
    obtain ⟨_,h0,h1,h2⟩:=Xa.B1 hh
    obtain ⟨i1,i2,i3⟩:=vH f (t.set x.1 x.2) fun y hy=>by
     rcases gm hy with hy|rfl
     ·exact h y hy
     ·exact h2
    exact ⟨aP (JV h0 (by omega)) i1,by rw [i2,cO],i3⟩
theorem RA {p:Nat} {g:ag} {xs:List Nat} (hp:p∈zq) (hl:xs.length=arity.getD p 0) (ok:cP g):cP (lV p g xs).1∧(lV p g xs).1.n=g.n:=by
 unfold zq at hp
 simp only [aG,bV,or_false] at hp
 rcases hp with rfl|rfl|rfl|rfl|rfl|rfl|rfl|rfl|rfl
 ·obtain ⟨c,h,rfl⟩:=Rl hl
  show cP (Dbuild.iZ g [c,h]).1∧(Dbuild.iZ g [c,h]).1.n=g.n
  unfold Dbuild.iZ
  simp only [uK,MQ]
  split
  ·exact ⟨ok,rfl⟩
  ·split
   ·exact ⟨ok,rfl⟩
   ·exact ⟨xT ok (by omega),rfl⟩
 ·obtain ⟨c,rfl⟩:=Me hl
  show cP (Dtear.iZ g [c]).1∧(Dtear.iZ g [c]).1.n=g.n
  unfold Dtear.iZ
  simp only [uK]
  split
  ·exact ⟨ok,rfl⟩
  ·split
   ·exact ⟨ok,rfl⟩
   ·exact ⟨xT ok (by omega),rfl⟩
 ·obtain ⟨c,i,v,rfl⟩:=Vw hl
  show cP (Dtell.iZ g [c,i,v]).1∧(Dtell.iZ g [c,i,v]).1.n=g.n
  unfold Dtell.iZ
  simp only [uK,MQ]
  split
  ·exact ⟨ok,rfl⟩
  ·exact ⟨L9 ok (by omega) (by omega),rfl⟩
 ·show cP (Dsolve.iZ g xs).1∧(Dsolve.iZ g xs).1.n=g.n
  unfold Dsolve.iZ
  split
  ·exact ⟨ok,rfl⟩
  ·obtain ⟨_,i2,i3⟩:=vH (c:=g.clues) (g.n*g.n) g.town ok.GG
   exact ⟨uu ok (by rw [i2];exact ok.town) i3,rfl⟩
 ·show cP (Dfill.iZ g xs).1∧(Dfill.iZ g xs).1.n=g.n
  unfold Dfill.iZ
  split
  ·rename_i l hl
   obtain ⟨h1,h2⟩:=qA ok l (b7 hl)
   exact ⟨uu ok h1 fun x hx=>(h2 x hx).2,rfl⟩
  ·exact ⟨ok,rfl⟩
 ·exact ⟨uu ok (by rw [ah];exact ok.town) fun x hx=>by obtain ⟨_,_,rfl⟩:=bf.mp hx;exact c8 _,rfl⟩
 ·show cP (Dask.iZ g xs).1∧(Dask.iZ g xs).1.n=g.n
  unfold Dask.iZ
  split
  ·exact ⟨IE ok,rfl⟩
  ·exact ⟨ok,rfl⟩
 ·exact ⟨Mb ok,rfl⟩
 ·exact ⟨G1 ok,rfl⟩
theorem qT {p:Nat} {a:aE} {xs:List Nat} {r:aW} (h:lV p a.now xs=(a.now,r)) (hr:¬0≤r.ret):wR p a xs=(a,r):=by
 unfold wR
 rw [h,if_neg hr]
theorem lW {p:Nat} {a:aE} {xs:List Nat} {g:ag} {r:aW} (h:lV p a.now xs=(g,r)) (hr:0≤r.ret):wR p a xs=(jJ a g,r):=by
 unfold wR
 rw [h,if_pos hr];rfl
theorem B9 {p:Nat} {a:aE} {xs:List Nat} (hp:p∈zq) (hl:xs.length=arity.getD p 0) (ok:cP a.now):a6 (some a) (lE p xs)=(some (wR p a xs).1,(wR p a xs).2):=by
 unfold zq at hp
 simp only [aG,bV,or_false] at hp
 rcases hp with rfl|rfl|rfl|rfl|rfl|rfl|rfl|rfl|rfl
 ·obtain ⟨c,h,rfl⟩:=Rl hl
  show (if a.now.n*a.now.n≤c∨h < 1∨a.now.n < h then (some a,aw (-22)) else if aA a.now.town c≠0 then (some a,aw (-17)) else (some (jJ a { a.now with town:=a.now.town.set c h }),aw (aD a.now.town+1:Nat)))=_
  by_cases h1:a.now.n*a.now.n≤c∨h < 1∨a.now.n < h
  ·rw [if_pos h1,qT (p:=1) (a:=a) (xs:=[c,h]) (r:=aw (-22)) (if_pos h1) (by decide)]
  ·rw [if_neg h1]
   by_cases h2:aA a.now.town c≠0
   ·rw [if_pos h2,qT (p:=1) (a:=a) (xs:=[c,h]) (r:=aw (-17)) ((if_neg h1).trans (if_pos h2)) (by decide)]
   ·rw [if_neg h2,lW (p:=1) (a:=a) (xs:=[c,h]) ((if_neg h1).trans (if_neg h2)) (kd _)];rfl
 ·obtain ⟨c,rfl⟩:=Me hl
  show (if a.now.n*a.now.n≤c then (some a,aw (-22)) else if aA a.now.town c=0 then (some a,aw (-2)) else (some (jJ a { a.now with town:=a.now.town.set c 0 }),aw (aA a.now.town c:Nat)))=_
  by_cases h1:a.now.n*a.now.n≤c
  ·rw [if_pos h1,qT (p:=2) (a:=a) (xs:=[c]) (r:=aw (-22)) (if_pos h1) (by decide)]
  ·rw [if_neg h1]
   by_cases h2:aA a.now.town c=0
   ·rw [if_pos h2,qT (p:=2) (a:=a) (xs:=[c]) (r:=aw (-2)) ((if_neg h1).trans (if_pos h2)) (by decide)]
   ·rw [if_neg h2,lW (p:=2) (a:=a) (xs:=[c]) ((if_neg h1).trans (if_neg h2)) (kd _)];rfl
 ·obtain ⟨c,i,v,rfl⟩:=Vw hl
  show (if 3 < c∨a.now.n≤i∨a.now.n < v then (some a,aw (-22)) else (some (jJ a { a.now with clues:=gG a.now.clues c i v }),aw (a8 a.now.clues c i:Nat)))=_
  by_cases h1:3 < c∨a.now.n≤i∨a.now.n < v
  ·rw [if_pos h1,qT (p:=3) (a:=a) (xs:=[c,i,v]) (r:=aw (-22)) (if_pos h1) (by decide)]
  ·rw [if_neg h1,lW (p:=3) (a:=a) (xs:=[c,i,v]) (if_neg h1) (kd _)];rfl
 ·show (if fg a.now.n a.now.town a.now.clues=true then (some a,aw (-33)) else (match fW a.now.n a.now.town a.now.clues with|some _=>(some (jJ a { a.now with town:=dH a.now.n a.now.clues (a.now.n*a.now.n) a.now.town }),aw ((aD (dH a.now.n a.now.clues (a.now.n*a.now.n) a.now.town):Int) - aD a.now.town))|none=>(some a,aw (-6))))=_
  by_cases hn:(gM a.now).ret < 0
  ·obtain ⟨h1,h2⟩:=IJ hn
   rw [qT (p:=16) (r:=gM a.now) (if_pos hn) (by omega),h2]
   by_cases hs:fg a.now.n a.now.town a.now.clues=true
   ·rw [if_pos hs,if_pos hs]
   ·rw [if_neg hs,if_neg hs,h1.resolve_left hs]
  ·obtain ⟨x,h1,h2,h3⟩:=Fn (show 0≤(gM a.now).ret by omega)
   obtain ⟨i1,_⟩:=vH (c:=a.now.clues) (a.now.n*a.now.n) a.now.town ok.GG
   rw [if_neg (by rw [h1];decide),h2,lW (p:=16) (if_neg hn) (show (0:Int)≤(aD (dH a.now.n a.now.clues (a.now.n*a.now.n) a.now.town):Int) - aD a.now.town by omega)]
 ·obtain ⟨c,rfl⟩:=Me hl
  show (match (bb a.now)[c]? with|some l=>(some (jJ a { a.now with town:=l }),aw ((a.now.n*a.now.n:Nat) - (aD a.now.town:Int)))|none=>(some a,aw (-2)):Option aE×aW)=_
  cases hc:(bb a.now)[c]? with
  | none=>rw [qT (p:=17) (r:=aw (-2)) (by show (match (bb a.now)[c]? with|some l=>_|none=>_:ag×aW)=_;rw [hc]) (by decide)]
  | some l =>
   have:=Xc.zb a.now.town
   have ht:=ok.town
   rw [lW (p:=17) (by show (match (bb a.now)[c]? with|some l=>_|none=>_:ag×aW)=({ a.now with town:=l },aw ((a.now.n*a.now.n:Nat) - (aD a.now.town:Int)));rw [hc]) (show (0:Int)≤(a.now.n*a.now.n:Nat) - (aD a.now.town:Int) by omega)]
 ·rw [lW (p:=20) (g:={ a.now with town:=a.now.town.map fun _=>0 }) (r:=aw (aD a.now.town)) rfl (kd _)];rfl
 ·show (if gF a.now=true then (some (jJ a { a.now with clues:=cz a.now }),aw (4*a.now.n:Nat)) else (some a,aw (-12)))=_
  by_cases h1:gF a.now=true
  ·rw [if_pos h1,lW (p:=21) (if_pos h1) (kd _)]
  ·rw [if_neg h1,qT (p:=21) (r:=aw (-12)) (if_neg h1) (by decide)]
 ·rw [lW (p:=22) (r:=aw 0) rfl (by decide)];rfl
 ·rw [lW (p:=23) (r:=aw 0) rfl (by decide)];rfl
noncomputable def uy:List Nat:=[9,10,11,12,13,18]
noncomputable def pC:List Nat:=[4,5,6,14,7,8,15,19,24]
theorem pD {p:Nat} {a:aE} {xs:List Nat} (hp:p∈uy++pC):a6 (some a) (lE p xs)=(some a,told a.now (lE p xs)):=by
 unfold uy pC at hp
 simp only [List.cons_append,fC,aG,bV,or_false] at hp
 have hi:∀{c:Prop} [Decidable c] {x y:aW},(if c then (some a,x) else (some a,y))=(some a,(if c then ((some ⟨a.now,[],[]⟩:Option aE),x) else (some ⟨a.now,[],[]⟩,y)).2):=fun {c _ x y}=>by split<;>rfl
 rcases hp with rfl|rfl|rfl|rfl|rfl|rfl|rfl|rfl|rfl|rfl|rfl|rfl|rfl|rfl|rfl
 ·rfl
 ·show (match (bb a.now)[xs.getD 0 0]? with|some l=>_|none=>_:Option aE×aW)=(some a,(match (bb a.now)[xs.getD 0 0]? with|some l=>_|none=>_:Option aE×aW).2)
  cases (bb a.now)[xs.getD 0 0]?<;>rfl
 ·show (if a.now.n*a.now.n≤xs.getD 0 0 then _ else (match bb a.now with|[]=>_|q::l=>_):Option aE×aW)=(some a,(if a.now.n*a.now.n≤xs.getD 0 0 then _ else (match bb a.now with|[]=>_|q::l=>_):Option aE×aW).2)
  split
  ·rfl
  ·cases bb a.now<;>rfl
 ·exact hi
 ·show (match bb a.now with|[]=>_|q::l=>_:Option aE×aW)=(some a,(match bb a.now with|[]=>_|q::l=>_:Option aE×aW).2)
  cases bb a.now<;>rfl
 ·show (match bb a.now with|[]=>_|_=>_:Option aE×aW)=(some a,(match bb a.now with|[]=>_|_=>_:Option aE×aW).2)
  cases bb a.now<;>rfl
 ·exact hi
 ·exact hi
 ·exact hi
 ·show (if 3 < xs.getD 0 0∨a.now.n≤xs.getD 1 0 then _ else (match gT a.now.n a.now.town a.now.clues (xs.getD 0 0) (xs.getD 1 0) with|[]=>_|w=>_):Option aE×aW)=(some a,(if 3 < xs.getD 0 0∨a.now.n≤xs.getD 1 0 then _ else (match gT a.now.n a.now.town a.now.clues (xs.getD 0 0) (xs.getD 1 0) with|[]=>_|w=>_):Option aE×aW).2)
  split
  ·rfl
  ·cases gT a.now.n a.now.town a.now.clues (xs.getD 0 0) (xs.getD 1 0)<;>rfl
 ·rfl
 ·rfl
 ·show (if fg a.now.n a.now.town a.now.clues=true then _ else (match fW a.now.n a.now.town a.now.clues with|some x=>_|none=>_):Option aE×aW)=(some a,(if fg a.now.n a.now.town a.now.clues=true then _ else (match fW a.now.n a.now.town a.now.clues with|some x=>_|none=>_):Option aE×aW).2)
  split
  ·rfl
  ·cases fW a.now.n a.now.town a.now.clues<;>rfl
 ·exact hi
 ·rfl
theorem zr {a:aE}:a6 (some a) .back=(some (Dback.res a).1,(Dback.res a).2):=by
 show (match a.undo with|g::l=>_|[]=>_:Option aE×aW)=_
 unfold Dback.res
 cases a.undo<;>rfl
theorem we {a:aE}:a6 (some a) .again=(some (Dagain.res a).1,(Dagain.res a).2):=by
 show (match a.redo with|g::l=>_|[]=>_:Option aE×aW)=_
 unfold Dagain.res
 cases a.redo<;>rfl
set_option synthInstance.maxSize 2000 in
theorem to27 {p:Nat} (h1:1≤p) (h2:p≤27):p=1∨p=2∨p=3∨p=4∨p=5∨p=6∨p=7∨p=8∨p=9∨p=10∨p=11∨p=12∨p=13∨p=14∨p=15∨p=16∨p=17∨p=18∨p=19∨p=20∨p=21∨p=22∨p=23∨p=24∨p=25∨p=26∨p=27:=(by decide:∀q < 28,1≤q→(q=1∨q=2∨q=3∨q=4∨q=5∨q=6∨q=7∨q=8∨q=9∨q=10∨q=11∨q=12∨q=13∨q=14∨q=15∨q=16∨q=17∨q=18∨q=19∨q=20∨q=21∨q=22∨q=23∨q=24∨q=25∨q=26∨q=27)) p (by omega) h1
theorem zt {p:Nat} {xs:List Nat} (h1:1≤p) (FV:p≤27):a6 none (lE p xs)=(none,aw (-61)):=by
 have:=to27 h1 FV
 rcases this with rfl|rfl|rfl|rfl|rfl|rfl|rfl|rfl|rfl|rfl|rfl|rfl|rfl|rfl|rfl|rfl|rfl|rfl|rfl|rfl|rfl|rfl|rfl|rfl|rfl|rfl|rfl<;>rfl
theorem RB {p:Nat} {a:aE} {xs:List Nat} (hp:p∈zq) (hl:xs.length=arity.getD p 0) (wf:Mt a):Mt (wR p a xs).1:=by
 obtain ⟨o1,o2⟩:=RA hp hl wf.now
 have wQ:=wf.wQ
 unfold wR
 split
 ·refine ⟨o1,fun g hg=>?_,?_⟩
  ·rw [gn] at hg
   have hg:g∈(a.now::a.undo).take 20:=hg
   have e:(lV p a.now xs).1.n=a.now.n:=o2
   rcases aG.mp (tI hg) with rfl|hg
   ·exact ⟨wf.now,e.symm⟩
   ·obtain ⟨q1,q2⟩:=wf.old g (bG.mpr (.inl hg))
    exact ⟨q1,q2.trans e.symm⟩
  ·show ((a.now::a.undo).take 20).length+0≤20
   rw [c0];omega
 ·exact ⟨o1,fun g hg=>⟨(wf.old g hg).1,(wf.old g hg).2.trans o2.symm⟩,wQ⟩
theorem Ow {a:aE} (wf:Mt a):Mt (Dback.res a).1:=by
 have wQ:=wf.wQ
 have old:=wf.old
 unfold Dback.res
 cases hU:a.undo with
 | nil=>exact wf
 | cons g l =>
  rw [hU] at wQ old
  have hg:=old g (by simp)
  refine ⟨hg.1,fun x hx=>?_,by show l.length+(a.redo.length+1)≤20;rw [az] at wQ;omega⟩
  have hx:x∈l++a.now::a.redo:=hx
  show cP x∧x.n=g.n
  rcases bG.mp hx with hx|hx
  ·have:=old x (by simp [hx]);exact ⟨this.1,this.2.trans hg.2.symm⟩
  ·rcases aG.mp hx with rfl|hx
   ·exact ⟨wf.now,hg.2.symm⟩
   ·have:=old x (by simp [hx]);exact ⟨this.1,this.2.trans hg.2.symm⟩
theorem My {a:aE} (wf:Mt a):Mt (Dagain.res a).1:=by
 have wQ:=wf.wQ
 have old:=wf.old
 unfold Dagain.res
 cases hU:a.redo with
 | nil=>exact wf
 | cons g l =>
  rw [hU] at wQ old
  have hg:=old g (by simp)
  refine ⟨hg.1,fun x hx=>?_,?_⟩
  ·have hx:x∈(a.now::a.undo).take DP++l:=hx
   show cP x∧x.n=g.n
   rcases bG.mp hx with hx|hx
   ·rcases aG.mp (tI hx) with rfl|hx
    ·exact ⟨wf.now,hg.2.symm⟩
    ·have:=old x (by simp [hx]);exact ⟨this.1,this.2.trans hg.2.symm⟩
   ·have:=old x (by simp [hx]);exact ⟨this.1,this.2.trans hg.2.symm⟩
  ·show ((a.now::a.undo).take 20).length+l.length≤20
   rw [c0,az]
   rw [az] at wQ
   omega
theorem kinds {p:Nat} (h1:1≤p) (FV:p≤27):p=25∨p=26∨p∈zq∨p∈uy∨p∈pC∨p=27:=by
 exact (by decide:∀q < 28,1≤q→(q=25∨q=26∨q∈zq∨q∈uy∨q∈pC∨q=27)) p (by omega) h1
theorem Mz {p:Nat} {s:Option aE} {xs:List Nat} (h1:1≤p) (FV:p≤27) (hl:xs.length=arity.getD p 0) (wf:Ov s):Ov (a6 s (lE p xs)).1:=by
 cases s with
 | none=>rw [zt h1 FV];trivial
 | some a =>
  have wf:Mt a:=wf
  rcases kinds h1 FV with rfl|rfl|h|h|h|rfl
  ·show Ov (a6 (some a) .back).1
   rw [zr];exact Ow wf
  ·show Ov (a6 (some a) .again).1
   rw [we];exact My wf
  ·rw [B9 h hl wf.now];exact RB h hl wf
  ·rw [pD (bG.mpr (.inl h))];exact wf
  ·rw [pD (bG.mpr (.inr h))];exact wf
  ·exact wf
end Tn
namespace Tn
open PySem PySem.Spec PyProof.Rows L2 Mi
noncomputable def MA:List D→Option D:=fun ds=>match M5 pC ds with
 | some d=>some d
 | none=>XC ds
theorem UQ {ds:List D} {d:D} (h:M5 pC ds=some d):MA ds=some d:=by unfold MA;rw [h]
theorem UR:∀ds d,MA ds=some d→bQ 3 ib ds=some d:=fun ds d h=>by
 unfold MA at h
 cases h1:M5 pC ds with
 | some e=>rw [h1] at h;cases h;exact Mf (fun g ok=>Fl ok) ds d h1
 | none=>rw [h1] at h;exact Uy ds d h
theorem RC {x:ag×Nat×Nat} (ok:cP x.1):MA [xS x,iN 27,iL []]=some (dq (tf x)):=by
 unfold MA
 cases h1:M5 pC [xS x,iN 27,iL []] with
 | some e =>
  have h2:=Mf (fun g ok=>Fl ok) _ e h1
  rw [B4 ok] at h2
  exact h2.symm
 | none=>exact Ux ok
noncomputable def Y_ (K:ab) (C:Addr):Sp:=fun vs H Q _=>∃(A gp:Addr) (F:Hp) (w:Own) (s:Option aE) (p:Nat) (xs:List Nat),vs=[.ref A,.int p,.ref gp]∧TS K C F H A w (qS s)∧Ov s∧F gp=some (.lst (vL xs))∧1≤p∧p≤27∧xs.length=arity.getD p 0 ∧
 ∀v F' H' w',TS K C F' H' A w' (qS (a6 s (lE p xs)).1)→kD A F H w F' H' w'→(∃pa,v=.ref pa∧H' pa=some (.lst (aV (a6 s (lE p xs)).2))∧(F pa≠none∨w.has A pa∨H pa=none))→Q v H'
theorem xX {K:ab} {A:Addr} {F H F' H':Hp} {w w':Own} {r:aW} {v:V} (st:kD A F H w F' H' w') (fh:bW F' H') (d:Den K F' (dq r) v):∃pa,v=.ref pa∧H' pa=some (.lst (aV r))∧(F pa≠none∨w.has A pa∨H pa=none):=by
 obtain ⟨pa,rfl,h⟩:=ux d
 refine ⟨pa,rfl,fh _ _ h,?_⟩
 cases hf:F pa with
 | some o=>exact .inl fun e=>nomatch e
 | none =>
  cases hh:H pa with
  | none=>exact .inr (.inr rfl)
  | some o=>rw [st.nw pa hf (by rw [hh];exact fun e=>nomatch e)] at h;cases h
section
variable {P:Program} {w:World} {K:ab} {mg:Str→Option Value} {base:Heap} {C:Addr} {k:Nat} {f:Addr} {fd:FuncData}
namespace Dcall
noncomputable def nN:List Str:=["town","call","given"]
noncomputable abbrev sS:Stmt:=top 133
theorem sc:aS nN nN (aa sS):=⟨rfl,rfl,rfl,by decide +kernel,rfl,by decide +kernel,by decide +kernel⟩
noncomputable abbrev e9:E:=.op .isin (.var 1) (.tup (.cons (.gl "BUILD" (.int 1)) (.cons (.gl "TEAR" (.int 2)) (.cons (.gl "TELL" (.int 3)) (.cons (.gl "SOLVE" (.int 16)) (.cons (.gl "FILL" (.int 17)) (.cons (.gl "CLEAR" (.int 20)) (.cons (.gl "ASK" (.int 21)) (.cons (.gl "TURN" (.int 22)) (.cons (.gl "MIRROR" (.int 23)) .nil))))))))))
noncomputable abbrev e6:E:=.op .isin (.var 1) (.tup (.cons (.gl "COUNT" (.int 9)) (.cons (.gl "NTH" (.int 10)) (.cons (.gl "SURE" (.int 11)) (.cons (.gl "COULD" (.int 12)) (.cons (.gl "KNOWN" (.int 13)) (.cons (.gl "SPARE" (.int 18)) .nil)))))))
noncomputable def nD (n:Nat):D:=.obj ["n"] [iN n]
theorem RE (n:Nat):qo (nD n) "n" = some (iN n):=by
 show look "n" ["n"] _=_
 unfold look;rw [if_pos rfl]
theorem ok (F:p6 K "answer_call" "answer_call" sS f fd) (W:Wd K mg C) (p:Ps ⟨P,w,K,mg,base,k⟩) (hb:rB ⟨P,w,K,mg,base,k⟩ "answer_back" Dback.nN (Vz K C Dback.res)) (ha:rB ⟨P,w,K,mg,base,k⟩ "answer_again" Dagain.nN (Vz K C Dagain.res))
  (J5:rB ⟨P,w,K,mg,base,k⟩ "answer_change" Dchange.pP (Y9 K C)) (X2:fY ⟨P,w,K,mg,base,k⟩ "answer_of_ways" (M5 uy)) (hlk:fY ⟨P,w,K,mg,base,k⟩ "answer_look" MA):eS P w K mg base iR (k+1) f fd nN (Y_ K C):=by
 refine F.ok sc (fun vs H Q E h=>?_) (fun ft A0 outer s H vs Q E hr h=>?_)
 ·obtain ⟨_,_,_,_,_,_,_,rfl,_⟩:=h
  rfl
 ·obtain ⟨A,gp,F0,ow,sb,n,xs,rfl,t,wf,Ry,h1,FV,hl,q⟩:=h
  have G:Good (iz iR P w K mg base nN "answer_call" (aa sS) f ft A0 outer s H E).q5 k:=⟨hr,rfl,sc.nd,W.bl⟩
  refine ⟨_,aF (fS ((tG (N:=nN) (sc:=aa sS) (.op .eq (.fld (.var 0) "n") (.int 0)) G rfl rfl)) (bw (b5 ((tH (N:=nN) (sc:=aa sS) (x1 (.gl "NOT_BEGUN" (.int (-61)))) G rfl rfl)))) c_)
   (aF (fS ((tG (N:=nN) (sc:=aa sS) (tq "BACK" 25) G rfl rfl)) (bw (b5 ((hc (sc:=aa sS) (k:=k) hb G rfl (by decide +kernel) (br (pv 0) cw) rfl rfl)))) c_)
   (aF (fS ((tG (N:=nN) (sc:=aa sS) (tq "AGAIN" 26) G rfl rfl)) (bw (b5 ((hc (sc:=aa sS) (k:=k) ha G rfl (by decide +kernel) (br (pv 0) cw) rfl rfl)))) c_)
   (aF (fS ((tG (N:=nN) (sc:=aa sS) e9 G rfl rfl)) (bw (b5 ((hc (sc:=aa sS) (k:=k) J5 G rfl (by decide +kernel) (br (pv 0) (br (pv 1) (br (pv 2) cw))) rfl rfl)))) c_)
   (aF (fS ((tG (N:=nN) (sc:=aa sS) e6 G rfl rfl)) (bw (b5 ((kE (N:=nN) (sc:=aa sS) (.call "answer_of_ways" (M5 uy) (x3 (.var 0) (.var 1) (.var 2))) G rfl rfl)))) c_)
   (bw (b5 ((kE (N:=nN) (sc:=aa sS) (.call "answer_look" MA (x3 (.var 0) (.var 1) (.var 2))) G rfl rfl)))))))),?_⟩
  obtain ⟨dx,gs,y1,y2,_⟩:=t.ex
  refine gJ (ρ:=[some (nD (qS sb).now.n),none,none]) (aB (zl y1 W.T.cl (g8 W.T.n y2 uv) (bD (bR _) bX)) (ao (ao aK))) (bx (cq (af rfl) (RE _)) a_ (fT (b:=0))) fun H1 s1=>?_
  have t1:=t.same s1
  have ot:kD A F0 H ow F0 H1 ow:=kD.refl.same s1
  cases sb with
  | none =>
   rw [decide_eq_true (show (qS none).now.n=0 from rfl),if_pos rfl]
   rw [zt h1 FV] at q
   exact jI (ρ:=[none,none,none]) (ao (ao (ao aK))) (ai bZ ay) fun z vs H2 s2 np hp _ dl=>hE (r:=aw (-61)) t1 ot s2 np hp dl rfl (by decide) fun v F' H' w' t' kU d'=>q v F' H' w' t' kU (xX kU t'.fh d')
  | some a =>
   have wf:Mt a:=wf
   have t1:TS K C F0 H1 A ow a:=t1
   have WZ:=wf.now.lo
   rw [decide_eq_false (show ¬(qS (some a)).now.n=0 by show ¬a.now.n=0;omega),if_neg (by decide)]
   have Ae:∀{H2:Hp},Slots K H2 [some (.ref A),some (.int n),some (.ref gp)] [none,some (iN n),none]:=ao (aB (bR _) (ao aK))
   refine gJ Ae (jG rfl) fun H2 s2=>?_
   have t2:=t1.same s2
   have rL:=ot.same s2
   by_cases VD:n=25
   ·rw [decide_eq_true VD,if_pos rfl]
    subst VD
    rw [show lE 25 xs=.back from rfl,zr] at q
    exact ⟨_,rfl,A,F0,ow,a,rfl,t2,wf,fun v F' H' w' t' kU d'=>q v F' H' w' t' (rL.trans kU) (xX (rL.trans kU) t'.fh d')⟩
   ·rw [decide_eq_false VD,if_neg (by decide)]
    refine gJ Ae (jG rfl) fun H3 s3=>?_
    have t3:=t2.same s3
    have oP:=rL.same s3
    by_cases VE:n=26
    ·rw [decide_eq_true VE,if_pos rfl]
     subst VE
     rw [show lE 26 xs=.again from rfl,we] at q
     exact ⟨_,rfl,A,F0,ow,a,rfl,t3,wf,fun v F' H' w' t' kU d'=>q v F' H' w' t' (oP.trans kU) (xX (oP.trans kU) t'.fh d')⟩
    ·rw [decide_eq_false VE,if_neg (by decide)]
     have e9v:∀{ρ:eM},fR ρ 1=some (iN n)→bH e9 ρ=some (.bl (decide (n∈zq))):=fun h=>bx (af h) (ud (ai bZ (ai bZ (ai bZ (ai bZ (ai bZ (ai bZ (ai bZ (ai bZ (ai bZ ay)))))))))) (G6 rfl)
     have e6v:∀{ρ:eM},fR ρ 1=some (iN n)→bH e6 ρ=some (.bl (decide (n∈uy))):=fun h=>bx (af h) (ud (ai bZ (ai bZ (ai bZ (ai bZ (ai bZ (ai bZ ay))))))) (G6 rfl)
     refine gJ Ae (e9v rfl) fun H4 s4=>?_
     have t4:=t3.same s4
     have vT:=oP.same s4
     by_cases pc:n∈zq
     ·rw [decide_eq_true pc,if_pos rfl]
      rw [B9 pc hl wf.now] at q
      exact ⟨_,rfl,_,rfl,_,rfl,A,gp,F0,ow,a,n,xs,rfl,t4,wf,Ry,pc,hl,fun v F' H' w' t' kU d'=>q v F' H' w' t' (vT.trans kU) (xX (vT.trans kU) t'.fh d')⟩
     ·rw [decide_eq_false pc,if_neg (by decide)]
      refine gJ Ae (e6v rfl) fun H5 s5=>?_
      have t5:=t4.same s5
      have uN:=vT.same s5
      have p0:xs.length≤1000:=by
       rw [hl]
       have h3:∀x∈arity,x≤3:=by decide
       rw [ak]
       cases hx:arity[n]? with
       | none=>exact c8 _
       | some y=>have:=h3 y (b7 hx);show y≤1000;omega
      let PH:Hp:=part (fun b=>ow.has A b∨b=gp) H5
      have pat:∀b,ow.has A b→PH b=H5 b:=fun b hb=>pB (.inl hb)
      have dg:Den K PH (iL xs) (.ref gp):=oa ((pB (.inr rfl)).trans (t5.fh _ _ Ry)) p0
      have fin:∀{v:V} {F1 H6:Hp} {r:aW},Ext PH H5 F1 H6→Den K F1 (dq r) v→a6 (some a) (lE n xs)=(some a,r)→Q v H6:=fun {v F1 H6 r} ex dv hd=>by
       rw [hd] at q
       obtain ⟨pa,rfl,h⟩:=ux dv
       refine q _ F0 H6 ow (t5.same ex.hh) (uN.same ex.hh) ⟨pa,rfl,ex.fh _ _ h,?_⟩
       rcases Ext.from ex h with e|e
       ·rcases xV e with e|e
        ·exact .inr (.inl e)
        ·exact .inl (by rw [e,Ry];exact fun z=>nomatch z)
       ·exact .inr (.inr (uN.Ad _ e))
      have Za:Slots K PH [some (.ref A),some (.int n),some (.ref gp)] [some (tD a.now),some (iN n),some (iL xs)]:=aB (t5.Oo W.T wf.now (pat _ (.inl rfl)) (pat _ (.inr (.inl rfl))) (pat _ (.inr (.inr (.inl rfl))))) (aB (bR _) (aB dg aK))
      by_cases pw:n∈uy
      ·rw [decide_eq_true pw,if_pos rfl]
       exact ⟨PH,_,_,ic,Za,aM (ai (af rfl) (ai (af rfl) (ai (af rfl) ay))) (Pn wf.now pw hl),fun v F1 H6 ex dv=>fin ex dv (pD (bG.mpr (.inl pw)))⟩
      ·rw [decide_eq_false pw,if_neg (by decide)]
       rcases kinds h1 FV with h|h|h|h|h|rfl
       ·exact absurd h VD
       ·exact absurd h VE
       ·exact absurd h pc
       ·exact absurd h pw
       ·exact ⟨PH,_,_,ic,Za,aM (ai (af rfl) (ai (af rfl) (ai (af rfl) ay))) (UQ (Pn wf.now h hl)),fun v F1 H6 ex dv=>fin ex dv (pD (bG.mpr (.inr h)))⟩
       ·obtain rfl:=G2 hl
        have wQ:=wf.wQ
        exact ⟨PH,[some (xS (a.now,a.undo.length,a.redo.length)),some (iN 27),some (iL [])],_,ic,aB (t5.XD W.T wf.now (by omega) (by omega) pat) (aB (bR _) (aB dg aK)),aM (ai (af rfl) (ai (af rfl) (ai (af rfl) ay))) (RC wf.now),fun v F1 H6 ex dv=>fin ex dv rfl⟩
end Dcall
theorem RF (l:List Nat) (i:Nat):bp ((zs l).getD i 0)=l.getD i 0:=by
 unfold bp zs
 rw [ak,ak,b8]
 cases l[i]?<;>rfl
theorem Ox {p:Nat} {xs:List Nat} (h1:1≤p) (FV:p≤27):(Cl.op p xs).call=lE p xs:=by
 have g:=RF (p::xs)
 have e:(Cl.op p xs).call=match bp ((zs (p::xs)).getD 0 0) with
  | 0=>Kh321.Call.start (bp ((zs (p::xs)).getD 1 0)) (sx ([zs (p::xs)].getD 1 []))
  | 1=>.build (bp ((zs (p::xs)).getD 1 0)) (bp ((zs (p::xs)).getD 2 0))
  | 2=>.tear (bp ((zs (p::xs)).getD 1 0))
  | 3=>.tell (bp ((zs (p::xs)).getD 1 0)) (bp ((zs (p::xs)).getD 2 0)) (bp ((zs (p::xs)).getD 3 0))
  | 4=>.at_ (bp ((zs (p::xs)).getD 1 0))
  | 5=>.seen (bp ((zs (p::xs)).getD 1 0)) (bp ((zs (p::xs)).getD 2 0))
  | 6=>.clue (bp ((zs (p::xs)).getD 1 0)) (bp ((zs (p::xs)).getD 2 0))
  | 7=>.clash|8=>.done|9=>.count
  | 10=>.nth (bp ((zs (p::xs)).getD 1 0))
  | 11=>.sure (bp ((zs (p::xs)).getD 1 0))
  | 12=>.could (bp ((zs (p::xs)).getD 1 0))
  | 13=>.known
  | 14=>.line (bp ((zs (p::xs)).getD 1 0)) (bp ((zs (p::xs)).getD 2 0))
  | 15=>.hint|16=>.solve
  | 17=>.fill (bp ((zs (p::xs)).getD 1 0))
  | 18=>.spare|19=>.views|20=>.clear|21=>.ask|22=>.turn|23=>.mirror|24=>.text|25=>.back|26=>.again
  | _=>.state:=rfl
 rw [e,g 0,g 1,g 2,g 3]
 have:=to27 h1 FV
 rcases this with rfl|rfl|rfl|rfl|rfl|rfl|rfl|rfl|rfl|rfl|rfl|rfl|rfl|rfl|rfl|rfl|rfl|rfl|rfl|rfl|rfl|rfl|rfl|rfl|rfl|rfl|rfl<;>rfl
theorem Dl {n:Nat} {t:List Nat}:(Cl.st n t).call=.start n t:=by
 have e:(Cl.st n t).call=.start (bp (n:Int)) (sx (zs t)):=rfl
 rw [e]
 congr 1
 unfold sx zs
 rw [ba]
 have:(bp∘fun x:Nat=>(x:Int))=id:=rfl
 rw [this,Bs]
theorem Fv {s:Option aE} {n:Nat} {b:List Nat}:qS (a6 s (.start n b)).1=(lx (qS s) n b).1∧(a6 s (.start n b)).2=(lx (qS s) n b).2:=by
 have e:a6 s (.start n b)=if n < 1∨4 < n then (s,aw (-22)) else (match fb n b with|some x=>(some ⟨⟨n,x.1,x.2⟩,[],[]⟩,aw (aD x.1))|none=>(s,aw (-71))):=by
  cases s<;>rfl
 rw [e]
 unfold lx
 split
 ·exact ⟨rfl,rfl⟩
 ·cases fb n b<;>exact ⟨rfl,rfl⟩
theorem MB {s:Option aE} {n:Nat} {b:List Nat} (wf:Ov s):Ov (a6 s (.start n b)).1:=by
 have e:a6 s (.start n b)=if n < 1∨4 < n then (s,aw (-22)) else (match fb n b with|some x=>(some ⟨⟨n,x.1,x.2⟩,[],[]⟩,aw (aD x.1))|none=>(s,aw (-71))):=by
  cases s<;>rfl
 rw [e]
 by_cases hn:n < 1∨4 < n
 ·rw [if_pos hn];exact wf
 ·rw [if_neg hn]
  by_cases h:qB n (fP b)=true∧wb n (fP b)=true
  ·obtain ⟨x,hx,_,_,VB⟩:=E7 (b:=b) (by omega) (by omega) rfl h.1 h.2
   rw [hx]
   exact ⟨VB,fun g hg=>by simp at hg,by simp⟩
  ·rw [C4 (b:=b) rfl h];exact wf
theorem MC {l:List Nat} {i j:Nat} (hi:i≤l.length) (hj:j≤l.length):D8 (vL l) (some (i:Int)) (some (j:Int))=vL ((l.drop i).take (j - i)):=by
 unfold D8
 rw [xD (k:=i) (show RZ _ 0 (some (i:Int))=some i from congrArg some (by rw [eK];exact fI hi)),xD (k:=j) (show RZ _ _ (some (j:Int))=some j from congrArg some (by rw [eK];exact fI hj))]
 unfold vL
 rw [←pV,←pU]
theorem IP {l:List Nat} {i x:Nat} (h:l[i]?=some x):OU (vL l) (i:Int)=some (.int x):=by
 unfold OU
 rw [Fm (cv.mp h).1]
 show (vL l)[i]?=_
 unfold vL
 rw [b8,h];rfl
theorem MD (r:aW):(vE r).map V.int=aV r:=by
 unfold vE aV vL
 rw [aO,ba];rfl
theorem Oy {a:Addr} {H:Hp} {l:List V} (h:fo K H a l):fo K (part (·=a) H) a l:=by
 rcases h with (h|⟨o,h⟩)|h
 ·exact .inl (.inl ((pB (p:=(·=a)) rfl).trans h))
 ·exact .inl (.inr ⟨o,(pB (p:=(·=a)) rfl).trans h⟩)
 ·exact .inr h
theorem IQ {a:Addr} {F H:Hp} {l:List V} (s:bW F H) (h:fo K F a l):fo K H a l:=by
 rcases h with (h|⟨o,h⟩)|h
 ·exact .inl (.inl (s _ _ h))
 ·exact .inl (.inr ⟨o,s _ _ h⟩)
 ·exact .inr h
noncomputable def IS (K:ab):Sp:=fun vs H Q _=>∃(a:Addr) (ks:List Cl),vs=[.ref a]∧fo K H a (vL (ks.flatMap Cl.flat))∧(∀c∈ks,c.Wf)∧(kN none ks).length≤10000000∧∀H' p,H' p=some (.lst ((kN none ks).map V.int))→Q (.ref p) H'
theorem ari {p:Nat} {xs:List Nat} (h1:1≤p) (FV:p≤27) (h:xs.length+1=rK.getD p 0):xs.length=arity.getD p 0:=by
 have e:=(by decide:∀q < 28,1≤q→rK.getD q 0=arity.getD q 0+1) p (by omega) h1
 omega
namespace Dans
noncomputable def nN:List Str:=["calls","town","answered","place","call","behind","answer"]
noncomputable def pP:List Str:=["calls"]
noncomputable abbrev sS:Stmt:=top 132
theorem sc:aS nN pP (aa sS):=⟨rfl,rfl,rfl,by decide +kernel,rfl,by decide +kernel,by decide +kernel⟩
theorem RG {p:Nat} (h1:1≤p) (FV:p≤27):Gn (.tup (arity.map iN)) (iN p)=some (iN (arity.getD p 0)):=by
 show RY (arity.map iN) (p:Int)=_
 have hp:p < arity.length:=by show p < 28;omega
 exact Pj hp
noncomputable def Pw (K:ab) (C a A r:Addr) (KS:List Cl) (m:Nat) (σ:L2.St) (H':Hp):Prop:=∃(ks:List Cl) (pre:List Nat) (sb:Option aE) (F:Hp) (ow:Own) (out:List Int) (x4 x5 x6:Option V),m=ks.length∧KS.flatMap Cl.flat=pre++ks.flatMap Cl.flat∧σ=[some (.ref a),some (.ref A),some (.ref r),some (.int (pre.length:Nat)),x4,x5,x6]∧TS K C F H' A ow (qS sb)∧Ov sb∧fo K F a (vL (KS.flatMap Cl.flat)) ∧
 F r=none∧¬ow.has A r∧H' r=some (.lst (out.map V.int))∧kN none KS=out++kN sb ks∧(∀c∈ks,c.Wf)
theorem ok (F:p6 K "answers" "answers" sS f fd) (W:Wd K mg C) (p:Ps ⟨P,w,K,mg,base,k+1⟩) (N:Nw ⟨P,w,K,mg,base,k⟩ C) (P6:rB ⟨P,w,K,mg,base,k+1⟩ "answer_start" Dstart.pP (IL K C)) (NG:rB ⟨P,w,K,mg,base,k+1⟩ "answer_call" Dcall.nN (Y_ K C)):eS P w K mg base iR (k+1+1) f fd pP (IS K):=by
 refine F.ok sc (fun vs H Q E h=>?_) (fun ft A0 outer s H vs Q E hr h=>?_)
 ·obtain ⟨_,_,rfl,_⟩:=h
  rfl
 ·obtain ⟨a,KS,rfl,hsq,hwf,RH,q⟩:=h
  have G:Good (iz iR P w K mg base nN "answers" (aa sS) f ft A0 outer s H E).q5 (k+1):=⟨hr,rfl,sc.nd,W.bl⟩
  have XY:Gl (iz iR P w K mg base nN "answers" (aa sS) f ft A0 outer s H E).q5 "len" := gv (by show pY (aa sS) "len" = true;decide +kernel)
  refine ⟨_,aF (dh (i:=1) sc.nd rfl (Or.inl rfl) ((hn (sc:=aa sS) N G rfl (by decide +kernel))))
   (aF (dh (i:=2) sc.nd rfl (Or.inl rfl) ((tH (N:=nN) (sc:=aa sS) .nil G rfl rfl)))
   (aF (dh (i:=3) sc.nd rfl (Or.inl rfl) sA)
   (aF (D1 PassesOwn.never (Hu OR (pv 3) (D6 tQ XY W.bl.len PySem.boot_len (br (pv 0) cw)) rfl)
    (aF (dh (i:=4) sc.nd rfl (Or.inl rfl) (HD xx (pv 0) (pv 3) (fun _ _=>rfl)))
    (aF (fS ((tG (N:=nN) (sc:=aa sS) (.op .eq (.var 4) (.gl "START" (.int 0))) G rfl rfl))
     (aF (dh (i:=5) sc.nd rfl (Or.inl rfl) (ye Kz ((kE (N:=nN) (sc:=aa sS) (.op .add (.var 3) (.int 3)) G rfl rfl)) (HD xx (pv 0) ((kE (N:=nN) (sc:=aa sS) (.op .add (.var 3) (.int 2)) G rfl rfl)) (fun _ _=>rfl))))
      (bw (dh (i:=6) sc.nd rfl (Or.inl rfl) (hc (sc:=aa sS) (k:=k+1) P6 G rfl (by decide +kernel) (br (pv 1) (br (HD xx (pv 0) ((kE (N:=nN) (sc:=aa sS) (.op .add (.var 3) (.int 1)) G rfl rfl)) (fun _ _=>rfl)) (br (yf Cu (pv 0) (tN ((kE (N:=nN) (sc:=aa sS) (.op .add (.var 3) (.int 3)) G rfl rfl))) (tN (pv 5))) cw))) rfl rfl))))
     (aF (dh (i:=5) sc.nd rfl (Or.inl rfl) ((kE (N:=nN) (sc:=aa sS) (.op .add (.op .add (.var 3) (.int 1)) (.ix (.gl "NUMBERS_BEHIND" (.tup (arity.map iN))) (.var 4))) G rfl rfl)))
      (bw (dh (i:=6) sc.nd rfl (Or.inl rfl) (hc (sc:=aa sS) (k:=k+1) NG G rfl (by decide +kernel) (br (pv 1) (br (pv 4) (br (yf Cu (pv 0) (tN ((kE (N:=nN) (sc:=aa sS) (.op .add (.var 3) (.int 1)) G rfl rfl))) (tN (pv 5))) cw))) rfl rfl)))))
    (aF (jm (tR PySem.F.plainAttrs_list PySem.F.slot_list_append PySem.F.type_list_append oy (pv 2) (br ((kE (N:=nN) (sc:=aa sS) (.un .len (.var 6)) G rfl rfl)) cw)))
    (aF (jm (tR PySem.F.plainAttrs_list PySem.F.slot_list_extend PySem.F.type_list_extend uR (pv 2) (br (pv 6) cw)))
    (bw (dh (i:=3) sc.nd rfl (Or.inl rfl) (pv 5))))))))
   (bw (b5 (pv 2)))))),?_⟩
  have hz:(10000000:Nat)≤sizeLine:=by decide
  intro A UP nx nd k6
  refine ⟨A,UP,rfl,aL,fun H1 w1 m=>⟨rfl,?_⟩⟩
  obtain ⟨t1,s1,aa0⟩:=m.town (K:=K) (F:=part (·=a) H) nx nd ic
  change wo (J9 K (kj .nil)) (lA 2) _ [some (.ref a),some (.ref A),none,none,none,none,none] _
  refine jI (ρ:=[none,none,none,none,none,none,none]) (ao (ao (ao (ao (ao (ao (ao aK))))))) ay fun r us H2 s2 nr hr2 _ dl2=>?_
  obtain rfl:=bO dl2
  have t2:=t1.same s2
  refine ⟨Pw K C a A r KS,
   ⟨_,KS,[],none,_,w1,[],none,none,none,rfl,rfl,rfl,t2,trivial,Oy hsq,same_none t1.fh nr,fun h=>t1.has h nr,hr2,rfl,hwf⟩,?_⟩
  rintro m σ H3 ⟨ks,pre,sb,F3,ow,out,x4,x5,x6,rfl,NU,rfl,t3,X4,Zb,Sz,or3,US,UT,UU⟩
  have RI:∀{H4:Hp},bW H3 H4→fo K H4 a (vL (KS.flatMap Cl.flat)):=fun s4=>IQ (t3.fh.trans s4) Zb
  refine ⟨_,rfl,_,rfl,a,_,rfl,.inl (RI (same_refl H3)),_,_,rfl,rfl,_,rfl,?_⟩
  rw [eK,NU,ax]
  cases ks with
  | nil =>
   rw [decide_eq_false (show ¬((pre.length:Nat):Int) < ((pre.length+(([]:List Cl).flatMap Cl.flat).length:Nat):Int) by simp),if_neg (by decide)]
   refine ⟨_,rfl,q H3 r ?_⟩
   rw [UT]
   show _=some (HO.lst ((out++[]).map V.int))
   rw [gn];exact US
  | cons c ks =>
   have Zc:1≤c.flat.length:=by cases c<;>(show 1≤_+1;omega)
   rw [decide_eq_true (show ((pre.length:Nat):Int) < ((pre.length+((c::ks).flatMap Cl.flat).length:Nat):Int) by rw [b_,ax];omega),if_pos rfl]
   refine ⟨_,fun fJ H' h=>h,?_⟩
   have hN:KS.flatMap Cl.flat=pre++(c.flat++ks.flatMap Cl.flat):=by rw [NU,b_]
   have Zd:=UU c (by simp)
   have Oz:∀i x,c.flat[i]?=some x→(KS.flatMap Cl.flat)[pre.length+i]?=some x:=fun i x hx=>by
    rw [hN,jf (by omega),hJ,jz (cv.mp hx).1,hx]
   have leN:pre.length+c.flat.length≤(KS.flatMap Cl.flat).length:=by rw [hN,ax,ax];omega
   have Px:kN none KS=(out++((vE (a6 sb c.call).2).length:Int)::vE (a6 sb c.call).2)++kN (a6 sb c.call).1 ks:=by
    rw [UT]
    show out++(((vE (a6 sb c.call).2).length:Int)::(vE (a6 sb c.call).2++kN (a6 sb c.call).1 ks))=_
    simp
   have hlen:out.length+(1+(aV (a6 sb c.call).2).length)≤10000000:=by
    have h:=RH
    rw [Px,ax,ax,az] at h
    have:(vE (a6 sb c.call).2).length=(aV (a6 sb c.call).2).length:=by rw [←MD,ah]
    omega
   have fin:∀(EN:Ends),(∀fJ H',(∃m',m' < (c::ks).length∧Pw K C a A r KS m' fJ H')→EN.nx fJ H')→∀(x4:Option V) (bh:Nat) (pa:Addr) (F' H':Hp) (w':Own),bh=pre.length+c.flat.length→TS K C F' H' A w' (qS (a6 sb c.call).1)→Ov (a6 sb c.call).1→bW F3 F'→F' r=none→¬w'.has A r→H' r=some (.lst (out.map V.int))→H' pa=some (.lst (aV (a6 sb c.call).2))→pa≠r →
     Nk (DY (SX K "list" HE (sy 2) (D4 (tM K (bH (.un .len (.var 6)))) Jd))) (Nk (DY (SX K "list" HF (sy 2) (D4 (sy 6) Jd))) (wo (sy 5) (lA 3))) EN [some (.ref a),some (.ref A),some (.ref r),some (.int (pre.length:Nat)),x4,some (.int (bh:Nat)),some (.ref pa)] H':=fun EN hD x4 bh pa F' H' w' hbh t' wf' sF fr X5 Vr HV k6=>by
    have aa5:(aV (a6 sb c.call).2).length=(a6 sb c.call).2.out.length+1:=by unfold aV;rw [az,eK]
    have da:Den K H' (dq (a6 sb c.call).2) (.ref pa):=gA (by rw [az,ah];omega) HV (Dh _)
    refine ⟨_,rfl,.inl ⟨rfl,_,fo.of Vr⟩,?_⟩
    refine g0 (ρ:=[none,none,none,none,none,none,some (dq (a6 sb c.call).2)]) (ao (ao (ao (ao (ao (ao (aB da aK))))))) (fV (af rfl) rfl) fun u H5 s5 du=>?_
    obtain rfl:=bF du
    have t5:=t'.same s5
    refine ⟨r,_,_,rfl,rfl,s5 _ _ Vr,by rw [ah];omega,?_⟩
    refine ⟨_,rfl,.inl ⟨rfl,_,fo.of aL⟩,_,rfl,r,pa,_,_,rfl,rfl,aL,by rw [aN k6];exact s5 _ _ HV,by rw [ax,ah];show _+1+_≤_;omega,?_⟩
    refine ⟨_,rfl,hD _ _ ?_⟩
    refine ⟨_,q0 _,ks,pre++c.flat,(a6 sb c.call).1,F',w',out++((vE (a6 sb c.call).2).length:Int)::vE (a6 sb c.call).2,x4,some (.int (bh:Nat)),some (.ref pa),rfl,by rw [hN,de],?_,(t5.off X5 fr _).off X5 fr _,wf',IQ sF Zb,fr,X5,?_,Px,fun c' U9=>UU c' (by simp [U9])⟩
    ·subst hbh;rw [ax];rfl
    ·rw [aL]
     congr 2
     rw [bq,aO,MD,de]
     congr 2
     show [V.int (((D.int (a6 sb c.call).2.ret::(a6 sb c.call).2.out.map iN).length:Nat):Int)]++aV _=_
     rw [List.singleton_append,az,ah]
     unfold vE
     rw [az,ah]
   cases c with
   | st n b =>
    obtain ⟨aa6,UW,_⟩:=Zd
    have fl:(Cl.st n b).flat.length=3+b.length:=by show b.length+1+1+1=_;omega
    refine ⟨_,rfl,_,rfl,a,_,_,_,rfl,rfl,RI (same_refl H3),IP (x:=0) (Oz 0 0 rfl),?_⟩
    have sl:∀{H4:Hp} {o5 o6:Option V} {z:V},Slots K H4 [some (.ref a),some (.ref A),some (.ref r),some (.int (pre.length:Nat)),some (.int (0:Nat)),o5,o6] [none,none,none,some (iN pre.length),some (iN 0),none,none]:=ao (ao (ao (aB (bR _) (aB (bR _) (ao (ao aK))))))
    refine gJ (sl (z:=.gH)) (bx (af rfl) bZ (fT (a:=0) (b:=0))) fun H4 s4=>?_
    rw [decide_eq_true rfl,if_pos rfl]
    refine g0 (sl (z:=.gH)) (bx (af rfl) a_ (eH (b:=3))) fun u H5 s5 du=>?_
    obtain rfl:=bF du
    have X6:=s4.trans s5
    refine ⟨_,rfl,?_⟩
    refine g0 (sl (z:=.gH)) (bx (af rfl) a_ (eH (b:=2))) fun u H6 s6 du=>?_
    obtain rfl:=bF du
    have RJ:=X6.trans s6
    refine ⟨a,_,_,_,rfl,rfl,RI RJ,IP (Oz 2 b.length rfl),_,_,rfl,rfl,?_⟩
    refine ⟨_,rfl,_,rfl,?_⟩
    refine g0 (ρ:=[none,none,none,some (iN pre.length),none,none,none]) (ao (ao (ao (aB (bR _) (ao (ao (ao aK))))))) (bx (af rfl) a_ (eH (b:=1))) fun u H7 s7 du=>?_
    obtain rfl:=bF du
    have Ze:=RJ.trans s7
    refine ⟨a,_,_,_,rfl,rfl,RI Ze,IP (Oz 1 n rfl),_,rfl,?_⟩
    refine g0 (ρ:=[none,none,none,some (iN pre.length),none,none,none]) (ao (ao (ao (aB (bR _) (ao (ao (ao aK))))))) (bx (af rfl) a_ (eH (b:=3))) fun u H8 s8 du=>?_
    obtain rfl:=bF du
    have VF:=Ze.trans s8
    have ebh:((pre.length+3:Nat):Int)+((b.length:Nat):Int)=((pre.length+3+b.length:Nat):Int):=by omega
    refine ⟨_,rfl,_,rfl,_,rfl,a,_,rfl,RI VF,fun tp np=>?_⟩
    rw [ebh,MC (by omega) (by omega)]
    have RK:(((KS.flatMap Cl.flat).drop (pre.length+3)).take (pre.length+3+b.length - (pre.length+3)))=b:=by
     rw [hN,←DT,DU,hJ]
     show ((b++ks.flatMap Cl.flat)).take b.length=b
     rw [List.take_left]
    rw [RK]
    have t8:=t3.same VF
    have Pu:=eF np (.lst (vL b))
    have t9:=t8.same Pu
    obtain ⟨n1,n2,n3,n4,n5⟩:=t8.new np
    have ntp:¬ow.has A tp:=fun h=>t8.has h np
    have hrt:r≠tp:=bS (VF _ _ US) np
    refine ⟨A,tp,F3,ow,qS sb,n,b,rfl,t9,aL,n1,ntp,UW,fun v F' H' w' t' kU d'=>?_⟩
    obtain ⟨UD,Nn⟩:=Fv (s:=sb) (n:=n) (b:=b)
    rw [←UD] at t'
    rw [←Nn] at d'
    obtain ⟨pa,rfl,HV⟩:=ux d'
    have X7:upd H8 tp (.lst (vL b)) r=some (.lst (out.map V.int)):=Pu _ _ (VF _ _ US)
    have hOr:¬(ow.has A r∨r=tp):=fun h=>h.elim or3 hrt
    have VG:F' r=none:=kU.nw r Sz (by rw [X7];exact fun e=>nomatch e)
    refine fin _ (fun fJ H' h=>h) _ (pre.length+3+b.length) pa F' H' w' (by rw [fl];omega) (by rw [Dl];exact t') (by rw [Dl];exact MB X4) kU.ff VG (fun h=>(kU.ow r h).elim hOr fun e=>by rw [X7] at e;cases e) (kU.keep r _ X7 hOr) (by rw [Dl];exact t'.fh _ _ HV) (fun e=>by rw [e,VG] at HV;cases HV)
   | op n xs =>
    obtain ⟨h1,FV,hsz,_⟩:=Zd
    have hl:=ari h1 FV hsz
    have fl:(Cl.op n xs).flat.length=1+xs.length:=by show xs.length+1=_;omega
    refine ⟨_,rfl,_,rfl,a,_,_,_,rfl,rfl,RI (same_refl H3),IP (x:=n) (Oz 0 n rfl),?_⟩
    have sl:∀{H4:Hp} {o5 o6:Option V} {z:V},Slots K H4 [some (.ref a),some (.ref A),some (.ref r),some (.int (pre.length:Nat)),some (.int (n:Nat)),o5,o6] [none,none,none,some (iN pre.length),some (iN n),none,none]:=ao (ao (ao (aB (bR _) (aB (bR _) (ao (ao aK))))))
    refine gJ (sl (z:=.gH)) (bx (af rfl) bZ (fT (b:=0))) fun H4 s4=>?_
    rw [decide_eq_false (show ¬n=0 by omega),if_neg (by decide)]
    refine g0 (sl (z:=.gH)) (bx (bx (af rfl) a_ (eH (b:=1))) (eA bZ (af rfl) (RG h1 FV)) eH) fun u H5 s5 du=>?_
    obtain rfl:=bF du
    have X6:=s4.trans s5
    refine ⟨_,rfl,_,rfl,_,rfl,?_⟩
    refine g0 (ρ:=[none,none,none,some (iN pre.length),none,none,none]) (ao (ao (ao (aB (bR _) (ao (ao (ao aK))))))) (bx (af rfl) a_ (eH (b:=1))) fun u H6 s6 du=>?_
    obtain rfl:=bF du
    have RJ:=X6.trans s6
    refine ⟨_,rfl,_,rfl,_,rfl,a,_,rfl,RI RJ,fun gp np=>?_⟩
    rw [MC (by omega) (by omega)]
    have RK:(((KS.flatMap Cl.flat).drop (pre.length+1)).take (pre.length+1+arity.getD n 0 - (pre.length+1)))=xs:=by
     rw [hN,←DT,DU,hJ,←hl]
     show ((xs++ks.flatMap Cl.flat)).take xs.length=xs
     rw [List.take_left]
    rw [RK]
    have t6:=t3.same RJ
    have ex:=Ext.new t6.fh np (.lst (vL xs))
    have t7:=t6.ext ex
    have hrg:r≠gp:=bS (RJ _ _ US) np
    refine ⟨A,gp,_,ow,sb,n,xs,rfl,t7,X4,aL,h1,FV,hl,fun v F' H' w' t' kU d'=>?_⟩
    obtain ⟨pa,rfl,HV,loc⟩:=d'
    have VH:upd H6 gp (.lst (vL xs)) r=some (.lst (out.map V.int)):=ex.hh _ _ (RJ _ _ US)
    have Zf:upd F3 gp (.lst (vL xs)) r=none:=by rw [aN hrg];exact Sz
    have VG:F' r=none:=kU.nw r Zf (by rw [VH];exact fun e=>nomatch e)
    have ME:=Ox (xs:=xs) h1 FV
    refine fin _ (fun fJ H' h=>h) _ (pre.length+1+arity.getD n 0) pa F' H' w' (by rw [fl,←hl];omega) (by rw [ME];exact t') (by rw [ME];exact Mz h1 FV hl X4) (ex.ff.trans kU.ff) VG (fun h=>(kU.ow r h).elim or3 fun e=>by rw [VH] at e;cases e) (kU.keep r _ VH or3) (by rw [ME];exact HV) (fun e=>?_)
    subst e
    rcases loc with e|e|e
    ·exact e Zf
    ·exact or3 e
    ·rw [VH] at e;cases e
end Dans
end
end Tn
namespace Tn
open PySem PySem.Spec PyProof.Rows L2 Mi
theorem _root_.Mi.fY.mono {P:Program} {w:World} {K:ab} {mg:Str→Option Value} {base:Heap} {j k:Nat} {x:Str} {g:List D→Option D} (F:fY ⟨P,w,K,mg,base,j⟩ x g) (h:j≤k):fY ⟨P,w,K,mg,base,k⟩ x g:=by
 obtain ⟨f,fd,ps,F,r⟩:=F.ex
 exact ⟨f,fd,ps,F.mono h,r⟩
theorem _root_.Mi.rB.mono {P:Program} {w:World} {K:ab} {mg:Str→Option Value} {base:Heap} {j k:Nat} {x:Str} {ps:List Str} {sp:Sp} (F:rB ⟨P,w,K,mg,base,j⟩ x ps sp) (h:j≤k):rB ⟨P,w,K,mg,base,k⟩ x ps sp:=by
 obtain ⟨f,fd,F,r⟩:=F.ex
 exact ⟨f,fd,F.mono h,r⟩
theorem Nw.mono {P:Program} {w:World} {K:ab} {mg:Str→Option Value} {base:Heap} {j k:Nat} {C:Addr} (F:Nw ⟨P,w,K,mg,base,j⟩ C) (h:j≤k):Nw ⟨P,w,K,mg,base,k⟩ C:=by
 obtain ⟨f,fd,M,F,r⟩:=F.ex
 exact ⟨f,fd,M,F.mono h,r⟩
structure Dd (K:ab) (mg:Str→Option Value) (x:Str) (i:Nat) (ps:List Str):Prop where
 ex:∃(f:Addr) (fd:FuncData),p6 K x x (top i) f fd∧mg x=some (.ref f)∧Binds K fd ps []
section
variable {P:Program} {w:World} {K:ab} {mg:Str→Option Value} {base:Heap} {C:Addr}
theorem j_ {k i:Nat} {x:Str} {N ps:List Str} {body:Ss} {g:List D→Option D} (D0:Dd K mg x i ps) (bl:Vn mg) (S:aS N ps (aa (top i))) (hc:bY N (aa (top i)) body (bc (top i))=true) (ok:cZ ⟨P,w,K,mg,base,k⟩ body) (by':∀ds d,g ds=some d→bQ N.length body ds=some d) (ar:∀ds d,g ds=some d→ds.length=ps.length):fY ⟨P,w,K,mg,base,k+1⟩ x g:=by
 obtain ⟨f,fd,F,hm,hb⟩:=D0.ex
 exact ⟨f,fd,ps,Um (Ul F S hc ok bl) by',hm,F.kp,hb,ar⟩
theorem X8 {k i n:Nat} {x:Str} {ps:List Str} {g:List D→Option D} (D0:Dd K mg x i ps) (h:∀f fd,p6 K x x (top i) f fd→eS P w K mg base iR k f fd ps (M0 K n g)) (hn:ps.length=n) (ar:∀ds d,g ds=some d→ds.length=ps.length):fY ⟨P,w,K,mg,base,k⟩ x g:=by
 subst hn
 obtain ⟨f,fd,F,hm,hb⟩:=D0.ex
 exact ⟨f,fd,ps,h f fd F,hm,F.kp,hb,ar⟩
theorem AQ {k i:Nat} {x:Str} {ps:List Str} {sp:Sp} (D0:Dd K mg x i ps) (h:∀f fd,p6 K x x (top i) f fd→eS P w K mg base iR k f fd ps sp):rB ⟨P,w,K,mg,base,k⟩ x ps sp:=by
 obtain ⟨f,fd,F,hm,hb⟩:=D0.ex
 exact ⟨f,fd,h f fd F,hm,F.kp,hb⟩
theorem cn {α:Type} {enc:α→List D} {pre:α→Prop} {out:α→D} {n:Nat} (h:∀x,(enc x).length=n):∀ds d,kI enc pre out ds=some d→ds.length=n:=fun ds d e=>by
 obtain ⟨x,rfl,_⟩:=bj e
 exact h x
theorem UX:∀ds d,MA ds=some d→ds.length=3:=fun ds d h=>by
 unfold MA at h
 cases h1:M5 pC ds with
 | some e=>obtain ⟨x,rfl,_⟩:=bj h1;rfl
 | none=>rw [h1] at h;obtain ⟨x,rfl,_⟩:=bj h;rfl
theorem G7:aS ["town","cell"] ["town","cell"] (aa (top 8)):=⟨rfl,rfl,rfl,by decide +kernel,rfl,by decide +kernel,by decide +kernel⟩
theorem G8:bY ["town","cell"] (aa (top 8)) rm (bc (top 8))=true:=by decide +kernel
theorem G9:aS ["town","side","i"] ["town","side","i"] (aa (top 9)):=⟨rfl,rfl,rfl,by decide +kernel,rfl,by decide +kernel,by decide +kernel⟩
theorem G_:bY ["town","side","i"] (aa (top 9)) rn (bc (top 9))=true:=by decide +kernel
theorem AR:aS ["n","side","i","cells","y","x"] ["n","side","i"] (aa (top 10)):=⟨rfl,rfl,rfl,by decide +kernel,rfl,by decide +kernel,by decide +kernel⟩
theorem AS:bY ["n","side","i","cells","y","x"] (aa (top 10)) lI (bc (top 10))=true:=by decide +kernel
theorem qU:aS ["town","side","i","cell"] ["town","side","i"] (aa (top 11)):=⟨rfl,rfl,rfl,by decide +kernel,rfl,by decide +kernel,by decide +kernel⟩
theorem qV:bY ["town","side","i","cell"] (aa (top 11)) h7 (bc (top 11))=true:=by decide +kernel
theorem Dm:aS ["town","side","i"] ["town","side","i"] (aa (top 12)):=⟨rfl,rfl,rfl,by decide +kernel,rfl,by decide +kernel,by decide +kernel⟩
theorem Dn:bY ["town","side","i"] (aa (top 12)) m_ (bc (top 12))=true:=by decide +kernel
theorem pR:aS ["town","height"] ["town"] (aa (top 13)):=⟨rfl,rfl,rfl,by decide +kernel,rfl,by decide +kernel,by decide +kernel⟩
theorem pS:bY ["town","height"] (aa (top 13)) gB (bc (top 13))=true:=by decide +kernel
theorem zu:aS ["town","clue"] ["town"] (aa (top 14)):=⟨rfl,rfl,rfl,by decide +kernel,rfl,by decide +kernel,by decide +kernel⟩
theorem zw:bY ["town","clue"] (aa (top 14)) n_ (bc (top 14))=true:=by decide +kernel
theorem AU:aS ["towers","highest","number","height"] ["towers"] (aa (top 15)):=⟨rfl,rfl,rfl,by decide +kernel,rfl,by decide +kernel,by decide +kernel⟩
theorem AV:bY ["towers","highest","number","height"] (aa (top 15)) lJ (bc (top 15))=true:=by decide +kernel
theorem Ha:aS ["heights","bits","height"] ["heights"] (aa (top 16)):=⟨rfl,rfl,rfl,by decide +kernel,rfl,by decide +kernel,by decide +kernel⟩
theorem Hb:bY ["heights","bits","height"] (aa (top 16)) rp (bc (top 16))=true:=by decide +kernel
theorem Dq:aS ["town","side","i","towers","near","far","heights"] ["town","side","i"] (aa (top 26)):=⟨rfl,rfl,rfl,by decide +kernel,rfl,by decide +kernel,by decide +kernel⟩
theorem Dr:bY ["town","side","i","towers","near","far","heights"] (aa (top 26)) ng (bc (top 26))=true:=by decide +kernel
theorem JW:aS ["n","rows","length","longer","row","height"] ["n"] (aa (top 27)):=⟨rfl,rfl,rfl,by decide +kernel,rfl,by decide +kernel,by decide +kernel⟩
theorem JX:bY ["n","rows","length","longer","row","height"] (aa (top 27)) kX (bc (top 27))=true:=by decide +kernel
theorem MF:aS ["heights","towers","height","tower"] ["heights","towers"] (aa (top 28)):=⟨rfl,rfl,rfl,by decide +kernel,rfl,by decide +kernel,by decide +kernel⟩
theorem MG:bY ["heights","towers","height","tower"] (aa (top 28)) xK (bc (top 28))=true:=by decide +kernel
theorem OA:aS ["heights","near","far"] ["heights","near","far"] (aa (top 29)):=⟨rfl,rfl,rfl,by decide +kernel,rfl,by decide +kernel,by decide +kernel⟩
theorem OB:bY ["heights","near","far"] (aa (top 29)) CL (bc (top 29))=true:=by decide +kernel
theorem Hc:aS ["found","place","way"] ["found","place"] (aa (top 30)):=⟨rfl,rfl,rfl,by decide +kernel,rfl,by decide +kernel,by decide +kernel⟩
theorem Hd:bY ["found","place","way"] (aa (top 30)) rq (bc (top 30))=true:=by decide +kernel
theorem He:aS ["found","place","way"] ["found","place"] (aa (top 31)):=⟨rfl,rfl,rfl,by decide +kernel,rfl,by decide +kernel,by decide +kernel⟩
theorem Hf:bY ["found","place","way"] (aa (top 31)) rz (bc (top 31))=true:=by decide +kernel
theorem zx:aS ["town","side","i","found","place"] ["town","side","i"] (aa (top 32)):=⟨rfl,rfl,rfl,by decide +kernel,rfl,by decide +kernel,by decide +kernel⟩
theorem zy:bY ["town","side","i","found","place"] (aa (top 32)) n8 (bc (top 32))=true:=by decide +kernel
theorem zz:aS ["town","told","side","i","found"] ["town"] (aa (top 33)):=⟨rfl,rfl,rfl,by decide +kernel,rfl,by decide +kernel,by decide +kernel⟩
theorem zA:bY ["town","told","side","i","found"] (aa (top 33)) n9 (bc (top 33))=true:=by decide +kernel
theorem qW:aS ["n","i"] ["n"] (aa (top 34)):=⟨rfl,rfl,rfl,by decide +kernel,rfl,by decide +kernel,by decide +kernel⟩
theorem qX:bY ["n","i"] (aa (top 34)) gw (bc (top 34))=true:=by decide +kernel
theorem AW:aS ["town","cells","found","place","cell"] ["town","cells","found"] (aa (top 35)):=⟨rfl,rfl,rfl,by decide +kernel,rfl,by decide +kernel,by decide +kernel⟩
theorem AX:bY ["town","cells","found","place","cell"] (aa (top 35)) lP (bc (top 35))=true:=by decide +kernel
theorem Dt:aS ["town","begun","i","rows","row","marks","cells"] ["town"] (aa (top 38)):=⟨rfl,rfl,rfl,by decide +kernel,rfl,by decide +kernel,by decide +kernel⟩
theorem Du:bY ["town","begun","i","rows","row","marks","cells"] (aa (top 38)) nh (bc (top 38))=true:=by decide +kernel
theorem rV:aS ["begun","rows","longer","marks","cells","row_marks","row"] ["begun","rows"] (aa (top 39)):=⟨rfl,rfl,rfl,by decide +kernel,rfl,by decide +kernel,by decide +kernel⟩
theorem rW:bY ["begun","rows","longer","marks","cells","row_marks","row"] (aa (top 39)) gO (bc (top 39))=true:=by decide +kernel
theorem wU:aS ["row","marks","x","height"] ["row"] (aa (top 40)):=⟨rfl,rfl,rfl,by decide +kernel,rfl,by decide +kernel,by decide +kernel⟩
theorem wV:bY ["row","marks","x","height"] (aa (top 40)) jT (bc (top 40))=true:=by decide +kernel
theorem zB:aS ["town","cells","n","i"] ["town","cells"] (aa (top 41)):=⟨rfl,rfl,rfl,by decide +kernel,rfl,by decide +kernel,by decide +kernel⟩
theorem zC:bY ["town","cells","n","i"] (aa (top 41)) kJ (bc (top 41))=true:=by decide +kernel
theorem wW:aS ["town"] ["town"] (aa (top 42)):=⟨rfl,rfl,rfl,by decide +kernel,rfl,by decide +kernel,by decide +kernel⟩
theorem wX:bY ["town"] (aa (top 42)) mC (bc (top 42))=true:=by decide +kernel
theorem AY:aS ["town","k","found"] ["town","k"] (aa (top 43)):=⟨rfl,rfl,rfl,by decide +kernel,rfl,by decide +kernel,by decide +kernel⟩
theorem AZ:bY ["town","k","found"] (aa (top 43)) pb (bc (top 43))=true:=by decide +kernel
theorem zD:aS ["town","cell","found"] ["town","cell"] (aa (top 44)):=⟨rfl,rfl,rfl,by decide +kernel,rfl,by decide +kernel,by decide +kernel⟩
theorem zE:bY ["town","cell","found"] (aa (top 44)) n6 (bc (top 44))=true:=by decide +kernel
theorem wY:aS ["town","cell"] ["town","cell"] (aa (top 45)):=⟨rfl,rfl,rfl,by decide +kernel,rfl,by decide +kernel,by decide +kernel⟩
theorem wZ:bY ["town","cell"] (aa (top 45)) mE (bc (top 45))=true:=by decide +kernel
theorem w8:aS ["town","found","known","cell"] ["town"] (aa (top 46)):=⟨rfl,rfl,rfl,by decide +kernel,rfl,by decide +kernel,by decide +kernel⟩
theorem w9:bY ["town","found","known","cell"] (aa (top 46)) mF (bc (top 46))=true:=by decide +kernel
theorem w_:aS ["town","told","needed","spared","place","clue"] ["town"] (aa (top 54)):=⟨rfl,rfl,rfl,by decide +kernel,rfl,by decide +kernel,by decide +kernel⟩
theorem xf:bY ["town","told","needed","spared","place","clue"] (aa (top 54)) mL (bc (top 54))=true:=by decide +kernel
theorem A1:aS ["full","told","wrong","place","clue"] ["full","told"] (aa (top 57)):=⟨rfl,rfl,rfl,by decide +kernel,rfl,by decide +kernel,by decide +kernel⟩
theorem A2:bY ["full","told","wrong","place","clue"] (aa (top 57)) lU (bc (top 57))=true:=by decide +kernel
theorem xg:aS ["town","views"] ["town"] (aa (top 58)):=⟨rfl,rfl,rfl,by decide +kernel,rfl,by decide +kernel,by decide +kernel⟩
theorem xh:bY ["town","views"] (aa (top 58)) mH (bc (top 58))=true:=by decide +kernel
theorem A3:aS ["town","views","side","i"] ["town"] (aa (top 60)):=⟨rfl,rfl,rfl,by decide +kernel,rfl,by decide +kernel,by decide +kernel⟩
theorem A4:bY ["town","views","side","i"] (aa (top 60)) lR (bc (top 60))=true:=by decide +kernel
theorem Dv:aS ["town","cell"] ["town","cell"] (aa (top 69)):=⟨rfl,rfl,rfl,by decide +kernel,rfl,by decide +kernel,by decide +kernel⟩
theorem Dx:bY ["town","cell"] (aa (top 69)) qx (bc (top 69))=true:=by decide +kernel
theorem xj:aS ["town","cell","n","crossing","taken","other","height"] ["town","cell"] (aa (top 70)):=⟨rfl,rfl,rfl,by decide +kernel,rfl,by decide +kernel,by decide +kernel⟩
theorem xk:bY ["town","cell","n","crossing","taken","other","height"] (aa (top 70)) jU (bc (top 70))=true:=by decide +kernel
theorem zF:aS ["town","side","i"] ["town","side","i"] (aa (top 71)):=⟨rfl,rfl,rfl,by decide +kernel,rfl,by decide +kernel,by decide +kernel⟩
theorem zG:bY ["town","side","i"] (aa (top 71)) nY (bc (top 71))=true:=by decide +kernel
theorem zH:aS ["town","side","i"] ["town","side","i"] (aa (top 72)):=⟨rfl,rfl,rfl,by decide +kernel,rfl,by decide +kernel,by decide +kernel⟩
theorem zI:bY ["town","side","i"] (aa (top 72)) nZ (bc (top 72))=true:=by decide +kernel
theorem xm:aS ["town"] ["town"] (aa (top 73)):=⟨rfl,rfl,rfl,by decide +kernel,rfl,by decide +kernel,by decide +kernel⟩
theorem xn:bY ["town"] (aa (top 73)) mB (bc (top 73))=true:=by decide +kernel
theorem A5:aS ["town","pairs","i"] ["town"] (aa (top 74)):=⟨rfl,rfl,rfl,by decide +kernel,rfl,by decide +kernel,by decide +kernel⟩
theorem A6:bY ["town","pairs","i"] (aa (top 74)) lK (bc (top 74))=true:=by decide +kernel
theorem rX:aS ["towers","pairs","k","height"] ["towers"] (aa (top 75)):=⟨rfl,rfl,rfl,by decide +kernel,rfl,by decide +kernel,by decide +kernel⟩
theorem rY:bY ["towers","pairs","k","height"] (aa (top 75)) gP (bc (top 75))=true:=by decide +kernel
theorem zJ:aS ["town","wrong","side","i"] ["town"] (aa (top 76)):=⟨rfl,rfl,rfl,by decide +kernel,rfl,by decide +kernel,by decide +kernel⟩
theorem zK:bY ["town","wrong","side","i"] (aa (top 76)) kK (bc (top 76))=true:=by decide +kernel
theorem Fw:aS ["clue","towers"] ["clue","towers"] (aa (top 77)):=⟨rfl,rfl,rfl,by decide +kernel,rfl,by decide +kernel,by decide +kernel⟩
theorem Fy:bY ["clue","towers"] (aa (top 77)) o_ (bc (top 77))=true:=by decide +kernel
theorem zL:aS ["town"] ["town"] (aa (top 78)):=⟨rfl,rfl,rfl,by decide +kernel,rfl,by decide +kernel,by decide +kernel⟩
theorem zM:bY ["town"] (aa (top 78)) n0 (bc (top 78))=true:=by decide +kernel
theorem xo:aS ["town"] ["town"] (aa (top 79)):=⟨rfl,rfl,rfl,by decide +kernel,rfl,by decide +kernel,by decide +kernel⟩
theorem xp:bY ["town"] (aa (top 79)) j0 (bc (top 79))=true:=by decide +kernel
theorem A7:aS ["text","lines","line","byte"] ["text"] (aa (top 87)):=⟨rfl,rfl,rfl,by decide +kernel,rfl,by decide +kernel,by decide +kernel⟩
theorem A8:bY ["text","lines","line","byte"] (aa (top 87)) lM (bc (top 87))=true:=by decide +kernel
theorem FA:aS ["n","lines","corners","line"] ["n","lines"] (aa (top 88)):=⟨rfl,rfl,rfl,by decide +kernel,rfl,by decide +kernel,by decide +kernel⟩
theorem FC:bY ["n","lines","corners","line"] (aa (top 88)) pd (bc (top 88))=true:=by decide +kernel
theorem A9:aS ["n","lines","cells","line"] ["n","lines"] (aa (top 89)):=⟨rfl,rfl,rfl,by decide +kernel,rfl,by decide +kernel,by decide +kernel⟩
theorem A_:bY ["n","lines","cells","line"] (aa (top 89)) lN (bc (top 89))=true:=by decide +kernel
theorem Ba:aS ["n","lines","above","right","below","left","line"] ["n","lines"] (aa (top 90)):=⟨rfl,rfl,rfl,by decide +kernel,rfl,by decide +kernel,by decide +kernel⟩
theorem Bb:bY ["n","lines","above","right","below","left","line"] (aa (top 90)) lO (bc (top 90))=true:=by decide +kernel
theorem Bc:aS ["n","signs","sign"] ["n","signs"] (aa (top 91)):=⟨rfl,rfl,rfl,by decide +kernel,rfl,by decide +kernel,by decide +kernel⟩
theorem Bd:bY ["n","signs","sign"] (aa (top 91)) lL (bc (top 91))=true:=by decide +kernel
theorem Dy:aS ["n","sign"] ["n","sign"] (aa (top 92)):=⟨rfl,rfl,rfl,by decide +kernel,rfl,by decide +kernel,by decide +kernel⟩
theorem Dz:bY ["n","sign"] (aa (top 92)) nj (bc (top 92))=true:=by decide +kernel
theorem zN:aS ["town","side","towers","i"] ["town","side"] (aa (top 96)):=⟨rfl,rfl,rfl,by decide +kernel,rfl,by decide +kernel,by decide +kernel⟩
theorem zO:bY ["town","side","towers","i"] (aa (top 96)) kM (bc (top 96))=true:=by decide +kernel
theorem Be:aS ["town","side"] ["town","side"] (aa (top 97)):=⟨rfl,rfl,rfl,by decide +kernel,rfl,by decide +kernel,by decide +kernel⟩
theorem Bf:bY ["town","side"] (aa (top 97)) lT (bc (top 97))=true:=by decide +kernel
theorem DA:aS ["town","side","clues","i"] ["town","side"] (aa (top 100)):=⟨rfl,rfl,rfl,by decide +kernel,rfl,by decide +kernel,by decide +kernel⟩
theorem DB:bY ["town","side","clues","i"] (aa (top 100)) nu (bc (top 100))=true:=by decide +kernel
theorem FD:aS ["town","i","numbers"] ["town","i"] (aa (top 101)):=⟨rfl,rfl,rfl,by decide +kernel,rfl,by decide +kernel,by decide +kernel⟩
theorem FE:bY ["town","i","numbers"] (aa (top 101)) pz (bc (top 101))=true:=by decide +kernel
theorem FF:aS ["numbers","number"] ["numbers"] (aa (top 102)):=⟨rfl,rfl,rfl,by decide +kernel,rfl,by decide +kernel,by decide +kernel⟩
theorem FG:bY ["numbers","number"] (aa (top 102)) px (bc (top 102))=true:=by decide +kernel
theorem uz:aS ["town","call","given"] ["town","call","given"] (aa (top 137)):=⟨rfl,rfl,rfl,by decide +kernel,rfl,by decide +kernel,by decide +kernel⟩
theorem uA:bY ["town","call","given"] (aa (top 137)) kC (bc (top 137))=true:=by decide +kernel
theorem zP:aS ["town","call","given"] ["town","call","given"] (aa (top 138)):=⟨rfl,rfl,rfl,by decide +kernel,rfl,by decide +kernel,by decide +kernel⟩
theorem zQ:bY ["town","call","given"] (aa (top 138)) ib (bc (top 138))=true:=by decide +kernel
structure Ds (K:ab) (mg:Str→Option Value):Prop where
 jt:Dd K mg "is_cell" 8 ["town","cell"]
 ju:Dd K mg "is_line" 9 ["town","side","i"]
 pE:Dd K mg "line_cells" 10 ["n","side","i"]
 dG:Dd K mg "line_towers" 11 ["town","side","i"]
 fZ:Dd K mg "line_clue" 12 ["town","side","i"]
 dj:Dd K mg "count_towers" 13 ["town"]
 nB:Dd K mg "count_clues" 14 ["town"]
 eU:Dd K mg "count_seen" 15 ["towers"]
 xY:Dd K mg "as_bits" 16 ["heights"]
 rD:Dd K mg "line_ways" 26 ["town","side","i"]
 orders:Dd K mg "orders" 27 ["n"]
 holds:Dd K mg "holds" 28 ["heights","towers"]
 fits:Dd K mg "fits" 29 ["heights","near","far"]
 xZ:Dd K mg "is_same" 30 ["found","place"]
 x8:Dd K mg "bits_at" 31 ["found","place"]
 nE:Dd K mg "answer_line" 32 ["town","side","i"]
 dW:Dd K mg "answer_hint" 33 ["town"]
 ir:Dd K mg "rows_then_columns" 34 ["n"]
 pF:Dd K mg "first_told" 35 ["town","cells","found"]
 lX:Dd K mg "answer_solve" 36 ["town"]
 f6:Dd K mg "town_ways" 38 ["town"]
 i4:Dd K mg "with_another_row" 39 ["begun","rows"]
 lY:Dd K mg "column_marks" 40 ["row"]
 nG:Dd K mg "columns_fit" 41 ["town","cells"]
 lZ:Dd K mg "answer_count" 42 ["town"]
 pG:Dd K mg "answer_nth" 43 ["town","k"]
 nI:Dd K mg "answer_sure" 44 ["town","cell"]
 l4:Dd K mg "answer_could" 45 ["town","cell"]
 l5:Dd K mg "answer_known" 46 ["town"]
 l6:Dd K mg "answer_build" 48 ["town","cell","height"]
 nJ:Dd K mg "answer_tear" 49 ["town","cell"]
 nL:Dd K mg "answer_tell" 50 ["town","side","i","clue"]
 l7:Dd K mg "answer_clear" 51 ["town"]
 nM:Dd K mg "answer_fill" 52 ["town","k"]
 l8:Dd K mg "answer_spare" 54 ["town"]
 kQ:Dd K mg "needed_places" 55 ["town","told"]
 gS:Dd K mg "ways_without_clues" 56 ["town"]
 eZ:Dd K mg "only_wrong" 57 ["full","told"]
 l9:Dd K mg "answer_views" 58 ["town"]
 pH:Dd K mg "answer_ask" 59 ["town"]
 mT:Dd K mg "town_views" 60 ["town"]
 rE:Dd K mg "moment_of" 63 ["town"]
 uB:Dd K mg "bring_to" 64 ["town","moment"]
 uC:Dd K mg "remember" 65 ["town","before"]
 nO:Dd K mg "answer_back" 66 ["town"]
 l_:Dd K mg "answer_again" 67 ["town"]
 rF:Dd K mg "answer_at" 69 ["town","cell"]
 ma:Dd K mg "free_heights" 70 ["town","cell"]
 nP:Dd K mg "answer_seen" 71 ["town","side","i"]
 nQ:Dd K mg "answer_clue" 72 ["town","side","i"]
 md:Dd K mg "answer_clash" 73 ["town"]
 pI:Dd K mg "like_pairs" 74 ["town"]
 i5:Dd K mg "like_pairs_along" 75 ["towers"]
 nR:Dd K mg "wrong_clues" 76 ["town"]
 uD:Dd K mg "is_wrong" 77 ["clue","towers"]
 nS:Dd K mg "answer_done" 78 ["town"]
 me:Dd K mg "answer_state" 79 ["town"]
 mf:Dd K mg "answer_start" 86 ["town","n","text"]
 eV:Dd K mg "text_lines" 87 ["text"]
 g9:Dd K mg "has_form" 88 ["n","lines"]
 eW:Dd K mg "read_cells" 89 ["n","lines"]
 eX:Dd K mg "read_clues" 90 ["n","lines"]
 pJ:Dd K mg "read_signs" 91 ["n","signs"]
 rG:Dd K mg "read_sign" 92 ["n","sign"]
 nT:Dd K mg "answer_turn" 94 ["town"]
 kR:Dd K mg "answer_mirror" 95 ["town"]
 dX:Dd K mg "towers_from" 96 ["town","side"]
 eY:Dd K mg "side_clues" 97 ["town","side"]
 nU:Dd K mg "answer_text" 99 ["town"]
 fG:Dd K mg "edge_line" 100 ["town","side"]
 hC:Dd K mg "row_line" 101 ["town","i"]
 g_:Dd K mg "signs_of" 102 ["numbers"]
 nV:Dd K mg "answer_call" 133 ["town","call","given"]
 kS:Dd K mg "answer_change" 134 ["town","call","given"]
 gx:Dd K mg "answer_given_change" 135 ["town","call","given"]
 gy:Dd K mg "answer_whole_change" 136 ["town","call"]
 j8:Dd K mg "answer_of_ways" 137 ["town","call","given"]
 nW:Dd K mg "answer_look" 138 ["town","call","given"]
set_option maxHeartbeats 4000000 in
theorem Hg {f:Addr} {fd:FuncData} (F:p6 K "answers" "answers" (top 132) f fd) (W:Wd K mg C) (d:Ds K mg) (N:Nw ⟨P,w,K,mg,base,1⟩ C):eS P w K mg base iR 100 f fd ["calls"] (IS K):=by
 have rH:fY ⟨P,w,K,mg,base,1⟩ "is_cell" h9:=j_ d.jt W.bl G7 G8 (by simp only [rm,cZ,hZ,dz,cD,iA,il,and_true,true_and,and_self]<;>(repeat' apply And.intro)<;>first|trivial) GL (cn fun _=>rfl)
 have rJ:fY ⟨P,w,K,mg,base,1⟩ "is_line" iU:=j_ d.ju W.bl G9 G_ (by simp only [rn,cZ,hZ,dz,cD,iA,il,and_true,true_and,and_self]<;>(repeat' apply And.intro)<;>first|trivial|exact W.j7) GN (cn fun _=>rfl)
 have iO:fY ⟨P,w,K,mg,base,1⟩ "line_clue" cb:=j_ d.fZ W.bl Dm Dn (by simp only [m_,cZ,hZ,dz,cD,iA,il,and_true,true_and,and_self]<;>(repeat' apply And.intro)<;>first|trivial) CK (cn fun _=>rfl)
 have mh:fY ⟨P,w,K,mg,base,1⟩ "line_cells" fw:=j_ d.pE W.bl AR AS (by simp only [lI,cZ,hZ,dz,cD,iA,il,and_true,true_and,and_self]<;>(repeat' apply And.intro)<;>first|trivial|exact W.jy|exact W.lr|exact W.lq) Ao (cn fun _=>rfl)
 have eE:fY ⟨P,w,K,mg,base,2⟩ "line_towers" cy:=j_ d.dG W.bl qU qV (by simp only [h7,cZ,hZ,dz,cD,iA,il,and_true,true_and,and_self]<;>(repeat' apply And.intro)<;>first|trivial|exact mh.mono (by decide)) yH (cn fun _=>rfl)
 have dR:fY ⟨P,w,K,mg,base,2⟩ "line_towers" gC:=j_ d.dG W.bl qU qV (by simp only [h7,cZ,hZ,dz,cD,iA,il,and_true,true_and,and_self]<;>(repeat' apply And.intro)<;>first|trivial|exact mh.mono (by decide)) wN (cn fun _=>rfl)
 have i6:fY ⟨P,w,K,mg,base,1⟩ "count_seen" di:=j_ d.eU W.bl AU AV (by simp only [k9,lJ,cZ,hZ,dz,cD,iA,il,and_true,true_and,and_self]<;>(repeat' apply And.intro)<;>first|trivial) Ar (cn fun _=>rfl)
 have qY:fY ⟨P,w,K,mg,base,1⟩ "count_towers" fM:=j_ d.dj W.bl pR pS (by simp only [gB,cZ,hZ,dz,cD,iA,il,and_true,true_and,and_self]<;>(repeat' apply And.intro)<;>first|trivial) wu (cn fun _=>rfl)
 have xq:fY ⟨P,w,K,mg,base,1⟩ "count_towers" jr:=j_ d.dj W.bl pR pS (by simp only [gB,cZ,hZ,dz,cD,iA,il,and_true,true_and,and_self]<;>(repeat' apply And.intro)<;>first|trivial) vv (cn fun _=>rfl)
 have zR:fY ⟨P,w,K,mg,base,1⟩ "column_marks" iG:=j_ d.lY W.bl wU wV (by simp only [jS,jT,cZ,hZ,dz,cD,iA,il,and_true,true_and,and_self]<;>(repeat' apply And.intro)<;>first|trivial) wA (cn fun _=>rfl)
 have MH:fY ⟨P,w,K,mg,base,2⟩ "fits" vh:=j_ d.fits W.bl OA OB (by simp only [CL,cZ,hZ,dz,cD,iA,il,and_true,true_and,and_self]<;>(repeat' apply And.intro)<;>first|trivial|exact i6.mono (by decide)) N8 (cn fun _=>rfl)
 have Bg:fY ⟨P,w,K,mg,base,3⟩ "columns_fit" ji:=j_ d.nG W.bl zB zC (by simp only [ku,kJ,cZ,hZ,dz,cD,iA,il,and_true,true_and,and_self]<;>(repeat' apply And.intro)<;>first|trivial|exact MH.mono (by decide)|exact iO.mono (by decide)|exact W.jy|exact W.lr) yL (cn fun _=>rfl)
 have OC:fY ⟨P,w,K,mg,base,1⟩ "holds" xM:=j_ d.holds W.bl MF MG (by simp only [sV,xK,cZ,hZ,dz,cD,iA,il,and_true,true_and,and_self]<;>(repeat' apply And.intro)<;>first|trivial) LH (cn fun _=>rfl)
 have MI:fY ⟨P,w,K,mg,base,1⟩ "orders" ug:=j_ d.orders W.bl JW JX (by simp only [v8,v9,kX,cZ,hZ,dz,cD,iA,il,and_true,true_and,and_self]<;>(repeat' apply And.intro)<;>first|trivial) JI (cn fun _=>rfl)
 have qZ:fY ⟨P,w,K,mg,base,3⟩ "line_ways" iF:=j_ d.rD W.bl Dq Dr (by simp only [ng,cZ,hZ,dz,cD,iA,il,and_true,true_and,and_self]<;>(repeat' apply And.intro)<;>first|trivial|exact MH.mono (by decide)|exact OC.mono (by decide)|exact iO.mono (by decide)|exact eE.mono (by decide)|exact dR.mono (by decide)|exact MI.mono (by decide)|exact W.j7) CM (cn fun _=>rfl)
 have tw:fY ⟨P,w,K,mg,base,1⟩ "with_another_row" fN:=j_ d.i4 W.bl rV rW (by simp only [fO,ij,gO,cZ,hZ,dz,cD,iA,il,and_true,true_and,and_self]<;>(repeat' apply And.intro)<;>first|trivial) rR (cn fun _=>rfl)
 have iQ:fY ⟨P,w,K,mg,base,4⟩ "town_ways" dF:=j_ d.f6 W.bl Dt Du (by simp only [my,nh,cZ,hZ,dz,cD,iA,il,and_true,true_and,and_self]<;>(repeat' apply And.intro)<;>first|trivial|exact zR.mono (by decide)|exact Bg.mono (by decide)|exact qZ.mono (by decide)|exact tw.mono (by decide)|exact W.mN) CO (cn fun _=>rfl)
 have vI:fY ⟨P,w,K,mg,base,1⟩ "is_same" iX:=j_ d.xZ W.bl Hc Hd (by simp only [rq,cZ,hZ,dz,cD,iA,il,and_true,true_and,and_self]<;>(repeat' apply And.intro)<;>first|trivial) GQ (cn fun _=>rfl)
 have DC:fY ⟨P,w,K,mg,base,2⟩ "first_told" lQ:=j_ d.pF W.bl AW AX (by simp only [ll,lP,cZ,hZ,dz,cD,iA,il,and_true,true_and,and_self]<;>(repeat' apply And.intro)<;>first|trivial|exact vI.mono (by decide)) AH (cn fun _=>rfl)
 have rZ:fY ⟨P,w,K,mg,base,1⟩ "rows_then_columns" fi:=j_ d.ir W.bl qW qX (by simp only [gw,cZ,hZ,dz,cD,iA,il,and_true,true_and,and_self]<;>(repeat' apply And.intro)<;>first|trivial|exact W.jy|exact W.mN) qE (cn fun _=>rfl)
 have sr:fY ⟨P,w,K,mg,base,4⟩ "answer_hint" (Ac .hint):=j_ d.dW W.bl zz zA (by simp only [fE,n9,cZ,hZ,dz,cD,iA,il,and_true,true_and,and_self]<;>(repeat' apply And.intro)<;>first|trivial|exact DC.mono (by decide)|exact mh.mono (by decide)|exact qZ.mono (by decide)|exact rZ.mono (by decide)|exact W.gQ|exact W.js) (Rk fun g ok=>wK ok) (cn fun _=>rfl)
 have DD:fY ⟨P,w,K,mg,base,1⟩ "text_lines" jW:=j_ d.eV W.bl A7 A8 (by simp only [lh,lM,cZ,hZ,dz,cD,iA,il,and_true,true_and,and_self]<;>(repeat' apply And.intro)<;>first|trivial|exact W.fF) AA (cn fun _=>rfl)
 have Hh:fY ⟨P,w,K,mg,base,1⟩ "has_form" mG:=j_ d.g9 W.bl FA FC (by simp only [pd,cZ,hZ,dz,cD,iA,il,and_true,true_and,and_self]<;>(repeat' apply And.intro)<;>first|trivial|exact W.lu) E5 (cn fun _=>rfl)
 have FH:fY ⟨P,w,K,mg,base,1⟩ "read_sign" nq:=j_ d.rG W.bl Dy Dz (by simp only [nj,cZ,hZ,dz,cD,iA,il,and_true,true_and,and_self]<;>(repeat' apply And.intro)<;>first|trivial|exact W.dU|exact W.wO|exact W.iM) CW (cn fun _=>rfl)
 have uE:fY ⟨P,w,K,mg,base,2⟩ "read_signs" iY:=j_ d.pJ W.bl Bc Bd (by simp only [lL,cZ,hZ,dz,cD,iA,il,and_true,true_and,and_self]<;>(repeat' apply And.intro)<;>first|trivial|exact FH.mono (by decide)) Ay (cn fun _=>rfl)
 have DE:fY ⟨P,w,K,mg,base,3⟩ "read_cells" jY:=j_ d.eW W.bl A9 A_ (by simp only [lj,lN,cZ,hZ,dz,cD,iA,il,and_true,true_and,and_self]<;>(repeat' apply And.intro)<;>first|trivial|exact uE.mono (by decide)) AD (cn fun _=>rfl)
 have DF:fY ⟨P,w,K,mg,base,3⟩ "read_clues" jZ:=j_ d.eX W.bl Ba Bb (by simp only [lO,cZ,hZ,dz,cD,iA,il,and_true,true_and,and_self]<;>(repeat' apply And.intro)<;>first|trivial|exact uE.mono (by decide)) AF (cn fun _=>rfl)
 have Bh:fY ⟨P,w,K,mg,base,3⟩ "towers_from" ia:=j_ d.dX W.bl zN zO (by simp only [ky,kM,cZ,hZ,dz,cD,iA,il,and_true,true_and,and_self]<;>(repeat' apply And.intro)<;>first|trivial|exact eE.mono (by decide)|exact dR.mono (by decide)) zg (cn fun _=>rfl)
 have DG:fY ⟨P,w,K,mg,base,1⟩ "side_clues" j4:=j_ d.eY W.bl Be Bf (by simp only [lT,cZ,hZ,dz,cD,iA,il,and_true,true_and,and_self]<;>(repeat' apply And.intro)<;>first|trivial) AK (cn fun _=>rfl)
 have DH:fY ⟨P,w,K,mg,base,3⟩ "only_wrong" j5:=j_ d.eZ W.bl A1 A2 (by simp only [cI,lU,cZ,hZ,dz,cD,iA,il,and_true,true_and,and_self]<;>(repeat' apply And.intro)<;>first|trivial|exact i6.mono (by decide)|exact eE.mono (by decide)|exact dR.mono (by decide)) AN (cn fun _=>rfl)
 have tE:fY ⟨P,w,K,mg,base,1⟩ "signs_of" iJ:=j_ d.g_ W.bl FF FG (by simp only [px,cZ,hZ,dz,cD,iA,il,and_true,true_and,and_self]<;>(repeat' apply And.intro)<;>first|trivial|exact W.dU|exact W.wO) Fd (cn fun _=>rfl)
 have Hi:fY ⟨P,w,K,mg,base,3⟩ "row_line" mI:=j_ d.hC W.bl FD FE (by simp only [pz,cZ,hZ,dz,cD,iA,il,and_true,true_and,and_self]<;>(repeat' apply And.intro)<;>first|trivial|exact iO.mono (by decide)|exact eE.mono (by decide)|exact dR.mono (by decide)|exact tE.mono (by decide)|exact W.mN|exact W.fF|exact W.lq) Fg (cn fun _=>rfl)
 have FI:fY ⟨P,w,K,mg,base,2⟩ "edge_line" jE:=j_ d.fG W.bl DA DB (by simp only [nu,cZ,hZ,dz,cD,iA,il,and_true,true_and,and_self]<;>(repeat' apply And.intro)<;>first|trivial|exact iO.mono (by decide)|exact tE.mono (by decide)|exact W.lu|exact W.fF) C9 (cn fun _=>rfl)
 have pk:∀k,19≤k→Ps ⟨P,w,K,mg,base,k⟩:=fun k hk=>⟨rH.mono (aP (by decide) hk),rJ.mono (aP (by decide) hk),iO.mono (aP (by decide) hk),eE.mono (aP (by decide) hk),dR.mono (aP (by decide) hk),i6.mono (aP (by decide) hk),qY.mono (aP (by decide) hk),iQ.mono (aP (by decide) hk),sr.mono (aP (by decide) hk),DD.mono (aP (by decide) hk),Hh.mono (aP (by decide) hk),DE.mono (aP (by decide) hk),DF.mono (aP (by decide) hk),Bh.mono (aP (by decide) hk),DG.mono (aP (by decide) hk),DH.mono (aP (by decide) hk),tE.mono (aP (by decide) hk),Hi.mono (aP (by decide) hk),FI.mono (aP (by decide) hk)⟩
 have UY:=pk 19 (by decide)
 have IT:=pk 20 (by decide)
 have Bi:fY ⟨P,w,K,mg,base,1⟩ "count_clues" kL:=j_ d.nB W.bl zu zw (by simp only [n_,cZ,hZ,dz,cD,iA,il,and_true,true_and,and_self]<;>(repeat' apply And.intro)<;>first|trivial) ze (cn fun _=>rfl)
 have B_:fY ⟨P,w,K,mg,base,1⟩ "as_bits" oI:=j_ d.xY W.bl Ha Hb (by simp only [o8,rp,cZ,hZ,dz,cD,iA,il,and_true,true_and,and_self]<;>(repeat' apply And.intro)<;>first|trivial) GH (cn fun _=>rfl)
 have Ca:fY ⟨P,w,K,mg,base,2⟩ "bits_at" oM:=j_ d.x8 W.bl He Hf (by simp only [rz,cZ,hZ,dz,cD,iA,il,and_true,true_and,and_self]<;>(repeat' apply And.intro)<;>first|trivial|exact B_.mono (by decide)) GR (cn fun _=>rfl)
 have Bj:fY ⟨P,w,K,mg,base,4⟩ "answer_line" (Pl .line):=j_ d.nE W.bl zx zy (by simp only [n8,cZ,hZ,dz,cD,iA,il,and_true,true_and,and_self]<;>(repeat' apply And.intro)<;>first|trivial|exact Ca.mono (by decide)|exact rJ.mono (by decide)|exact qZ.mono (by decide)|exact W.fm|exact W.gQ) (XB fun g k i ok=>wJ ok) (cn fun _=>rfl)
 have zS:fY ⟨P,w,K,mg,base,5⟩ "answer_count" (Ac .count):=j_ d.lZ W.bl wW wX (by simp only [mC,cZ,hZ,dz,cD,iA,il,and_true,true_and,and_self]<;>(repeat' apply And.intro)<;>first|trivial|exact iQ.mono (by decide)) (Rk fun g ok=>vn ok) (cn fun _=>rfl)
 have DI:fY ⟨P,w,K,mg,base,5⟩ "answer_nth" (M3 .nth):=j_ d.pG W.bl AY AZ (by simp only [pb,cZ,hZ,dz,cD,iA,il,and_true,true_and,and_self]<;>(repeat' apply And.intro)<;>first|trivial|exact iQ.mono (by decide)|exact W.eJ) (Vu fun g i ok=>yU ok) (cn fun _=>rfl)
 have Bk:fY ⟨P,w,K,mg,base,5⟩ "answer_sure" (M3 .sure):=j_ d.nI W.bl zD zE (by simp only [n6,cZ,hZ,dz,cD,iA,il,and_true,true_and,and_self]<;>(repeat' apply And.intro)<;>first|trivial|exact rH.mono (by decide)|exact vI.mono (by decide)|exact iQ.mono (by decide)|exact W.fm|exact W.gQ|exact W.js) (Vu fun g i ok=>wI ok) (cn fun _=>rfl)
 have zT:fY ⟨P,w,K,mg,base,5⟩ "answer_could" (M3 .could):=j_ d.l4 W.bl wY wZ (by simp only [mE,cZ,hZ,dz,cD,iA,il,and_true,true_and,and_self]<;>(repeat' apply And.intro)<;>first|trivial|exact Ca.mono (by decide)|exact rH.mono (by decide)|exact iQ.mono (by decide)|exact W.fm) (Vu fun g i ok=>vo ok) (cn fun _=>rfl)
 have zU:fY ⟨P,w,K,mg,base,5⟩ "answer_known" (Ac .known):=j_ d.l5 W.bl w8 w9 (by simp only [mF,cZ,hZ,dz,cD,iA,il,and_true,true_and,and_self]<;>(repeat' apply And.intro)<;>first|trivial|exact vI.mono (by decide)|exact iQ.mono (by decide)|exact W.gQ) (Rk fun g ok=>vp ok) (cn fun _=>rfl)
 have DJ:fY ⟨P,w,K,mg,base,3⟩ "town_views" lS:=j_ d.mT W.bl A3 A4 (by simp only [gY,lR,cZ,hZ,dz,cD,iA,il,and_true,true_and,and_self]<;>(repeat' apply And.intro)<;>first|trivial|exact i6.mono (by decide)|exact eE.mono (by decide)|exact dR.mono (by decide)|exact W.j7) AJ (cn fun _=>rfl)
 have zV:fY ⟨P,w,K,mg,base,4⟩ "answer_views" (Ac .views):=j_ d.l9 W.bl xg xh (by simp only [mH,cZ,hZ,dz,cD,iA,il,and_true,true_and,and_self]<;>(repeat' apply And.intro)<;>first|trivial|exact DJ.mono (by decide)|exact W.gD) (Rk fun g ok=>vA ok) (cn fun _=>rfl)
 have zW:fY ⟨P,w,K,mg,base,2⟩ "free_heights" jV:=j_ d.ma W.bl xj xk (by simp only [jU,cZ,hZ,dz,cD,iA,il,and_true,true_and,and_self]<;>(repeat' apply And.intro)<;>first|trivial|exact mh.mono (by decide)|exact W.jy|exact W.mN) wC (cn fun _=>rfl)
 have FJ:fY ⟨P,w,K,mg,base,3⟩ "answer_at" (M3 .at_):=j_ d.rF W.bl Dv Dx (by simp only [qx,cZ,hZ,dz,cD,iA,il,and_true,true_and,and_self]<;>(repeat' apply And.intro)<;>first|trivial|exact B_.mono (by decide)|exact zW.mono (by decide)|exact rH.mono (by decide)|exact W.fm) (Vu fun g i ok=>Av ok) (cn fun _=>rfl)
 have Bl:fY ⟨P,w,K,mg,base,3⟩ "answer_seen" (Pl .seen):=j_ d.nP W.bl zF zG (by simp only [nY,cZ,hZ,dz,cD,iA,il,and_true,true_and,and_self]<;>(repeat' apply And.intro)<;>first|trivial|exact i6.mono (by decide)|exact rJ.mono (by decide)|exact eE.mono (by decide)|exact dR.mono (by decide)|exact W.fm) (XB fun g k i ok=>wD ok) (cn fun _=>rfl)
 have Bm:fY ⟨P,w,K,mg,base,2⟩ "answer_clue" (Pl .clue):=j_ d.nQ W.bl zH zI (by simp only [nZ,cZ,hZ,dz,cD,iA,il,and_true,true_and,and_self]<;>(repeat' apply And.intro)<;>first|trivial|exact rJ.mono (by decide)|exact iO.mono (by decide)|exact W.fm) (XB fun g k i ok=>wF ok) (cn fun _=>rfl)
 have tF:fY ⟨P,w,K,mg,base,1⟩ "like_pairs_along" dA:=j_ d.i5 W.bl rX rY (by simp only [ik,gP,cZ,hZ,dz,cD,iA,il,and_true,true_and,and_self]<;>(repeat' apply And.intro)<;>first|trivial) rS (cn fun _=>rfl)
 have uF:fY ⟨P,w,K,mg,base,3⟩ "like_pairs" iV:=j_ d.pI W.bl A5 A6 (by simp only [k_,lK,cZ,hZ,dz,cD,iA,il,and_true,true_and,and_self]<;>(repeat' apply And.intro)<;>first|trivial|exact tF.mono (by decide)|exact eE.mono (by decide)|exact dR.mono (by decide)|exact W.jy|exact W.mN) Aw (cn fun _=>rfl)
 have Hj:fY ⟨P,w,K,mg,base,2⟩ "is_wrong" mz:=j_ d.uD W.bl Fw Fy (by simp only [o_,cZ,hZ,dz,cD,iA,il,and_true,true_and,and_self]<;>(repeat' apply And.intro)<;>first|trivial|exact i6.mono (by decide)) EY (cn fun _=>rfl)
 have su:fY ⟨P,w,K,mg,base,3⟩ "wrong_clues" h_:=j_ d.nR W.bl zJ zK (by simp only [iW,kx,kK,cZ,hZ,dz,cD,iA,il,and_true,true_and,and_self]<;>(repeat' apply And.intro)<;>first|trivial|exact Hj.mono (by decide)|exact iO.mono (by decide)|exact eE.mono (by decide)|exact dR.mono (by decide)|exact W.j7) yT (cn fun _=>rfl)
 have zX:fY ⟨P,w,K,mg,base,4⟩ "answer_clash" (Ac .clash):=j_ d.md W.bl xm xn (by simp only [mB,cZ,hZ,dz,cD,iA,il,and_true,true_and,and_self]<;>(repeat' apply And.intro)<;>first|trivial|exact uF.mono (by decide)|exact su.mono (by decide)) (Rk fun g ok=>vm ok) (cn fun _=>rfl)
 have Bn:fY ⟨P,w,K,mg,base,4⟩ "answer_done" (Ac .done):=j_ d.nS W.bl zL zM (by simp only [n0,cZ,hZ,dz,cD,iA,il,and_true,true_and,and_self]<;>(repeat' apply And.intro)<;>first|trivial|exact uF.mono (by decide)|exact su.mono (by decide)) (Rk fun g ok=>wH ok) (cn fun _=>rfl)
 have zY:fY ⟨P,w,K,mg,base,2⟩ "answer_state" (Vv):=j_ d.me W.bl xo xp (by simp only [j0,cZ,hZ,dz,cD,iA,il,and_true,true_and,and_self]<;>(repeat' apply And.intro)<;>first|trivial|exact Bi.mono (by decide)|exact qY.mono (by decide)|exact xq.mono (by decide)) (Uw) (cn fun _=>rfl)
 have UZ:fY ⟨P,w,K,mg,base,20⟩ "ways_without_clues" Fu:=X8 d.gS (fun f fd F=>Dwwc.ok (k:=18) F W UY (N.mono (by decide))) rfl (cn fun _=>rfl)
 have xr:fY ⟨P,w,K,mg,base,21⟩ "needed_places" gZ:=X8 d.kQ (fun f fd F=>Dneed.ok (k:=19) F W IT (N.mono (by decide)) UZ) rfl (cn fun _=>rfl)
 have RL:rB ⟨P,w,K,mg,base,20⟩ "edge_line" ["town","side"] (G5 K):=AQ d.fG fun f fd F=>Dedge.ok F W UY
 have Bo:fY ⟨P,w,K,mg,base,21⟩ "answer_text" (Ac .text):=X8 d.nU (fun f fd F=>Dtext.ok F W IT RL) rfl (cn fun _=>rfl)
 have zZ:fY ⟨P,w,K,mg,base,22⟩ "answer_spare" (Ac .spare):=j_ d.l8 W.bl w_ xf (by simp only [mL,cZ,hZ,dz,cD,iA,il,and_true,true_and,and_self]<;>(repeat' apply And.intro)<;>first|trivial|exact xr.mono (by decide)|exact iQ.mono (by decide)|exact W.gQ) (Rk fun g ok=>vD ok) (cn fun _=>rfl)
 have vJ:fY ⟨P,w,K,mg,base,23⟩ "answer_of_ways" (M5 uy):=j_ d.j8 W.bl uz uA (by simp only [kC,cZ,hZ,dz,cD,iA,il,and_true,true_and,and_self]<;>(repeat' apply And.intro)<;>first|trivial|exact zT.mono (by decide)|exact zS.mono (by decide)|exact zU.mono (by decide)|exact DI.mono (by decide)|exact zZ.mono (by decide)|exact Bk.mono (by decide)|exact W.mQ|exact W.mP|exact W.mR|exact W.zo|exact W.qN) (Mf fun g ok=>Fj ok) (cn fun _=>rfl)
 have Bp:fY ⟨P,w,K,mg,base,23⟩ "answer_look" (MA):=j_ d.nW W.bl zP zQ (by simp only [ib,cZ,hZ,dz,cD,iA,il,and_true,true_and,and_self]<;>(repeat' apply And.intro)<;>first|trivial|exact FJ.mono (by decide)|exact zX.mono (by decide)|exact Bm.mono (by decide)|exact Bn.mono (by decide)|exact sr.mono (by decide)|exact Bj.mono (by decide)|exact Bl.mono (by decide)|exact zY.mono (by decide)|exact Bo.mono (by decide)|exact zV.mono (by decide)|exact W.Mp|exact W.mO|exact W.qL|exact W.qM|exact W.qP|exact W.qO|exact W.qK|exact W.qQ|exact W.mS) (UR) UX
 have OD:rB ⟨P,w,K,mg,base,20⟩ "town_views" ["town"] (XH K C):=AQ d.mT fun f fd F=>Dviews.ok F W UY
 have z3:rB ⟨P,w,K,mg,base,20⟩ "moment_of" ["town"] (Fo K C):=AQ d.rE fun f fd F=>Dmoment.ok F W
 have IU:rB ⟨P,w,K,mg,base,20⟩ "bring_to" ["town","moment"] (Ou K C):=AQ d.uB fun f fd F=>Dbring.ok F W UY
 have U0:rB ⟨P,w,K,mg,base,20⟩ "remember" ["town","before"] (IK K C):=AQ d.uC fun f fd F=>Drem.ok F W UY
 have cs:Cs ⟨P,w,K,mg,base,21⟩ C:=⟨AQ d.l6 fun f fd F=>Dbuild.ok F W IT,AQ d.nJ fun f fd F=>Dtear.ok F W IT,AQ d.nL fun f fd F=>Dtell.ok F W IT,AQ d.nM fun f fd F=>Dfill.ok F W IT,AQ d.lX fun f fd F=>Dsolve.ok F W IT,AQ d.l7 fun f fd F=>Dclear.ok F W IT,AQ d.pH fun f fd F=>Dask.ok F W IT OD,AQ d.nT fun f fd F=>Dturn.ok F W IT,AQ d.kR fun f fd F=>Dmirror.ok F W IT⟩
 have OE:=AQ (P:=P) (w:=w) (base:=base) d.gx fun f fd F=>Dgiven.ok F W (pk 21 (by decide)) cs
 have OF:=AQ (P:=P) (w:=w) (base:=base) d.gy fun f fd F=>Dwhole.ok F W (pk 21 (by decide)) cs
 have MJ:=AQ (P:=P) (w:=w) (base:=base) d.kS fun f fd F=>Dchange.ok F W (pk 22 (by decide)) (z3.mono (by decide)) (U0.mono (by decide)) OE OF
 have RM:=AQ (P:=P) (w:=w) (base:=base) d.nO fun f fd F=>Dback.ok F W IT z3 IU
 have OG:=AQ (P:=P) (w:=w) (base:=base) d.l_ fun f fd F=>Dagain.ok F W IT z3 IU
 have RN:=AQ (P:=P) (w:=w) (base:=base) d.nV fun f fd F=>Dcall.ok (k:=23) F W (pk 23 (by decide)) (RM.mono (by decide)) (OG.mono (by decide)) MJ vJ Bp
 have OH:=AQ (P:=P) (w:=w) (base:=base) d.mf fun f fd F=>Dstart.ok F W IT
 exact (Dans.ok (k:=23) F W (pk 24 (by decide)) (N.mono (by decide)) (OH.mono (by decide)) RN).mono (by decide)
end
end Tn
namespace Tn
open PySem PySem.Spec PyProof.Rows L2 Mi
structure FT (K:ab) (x:Str) (i:Nat):Prop where
 ex:∃f oc od Ab kV doc pm an ft ct,cV K mainGlobals x=some (some (.ref f))∧K.lookup f=some ⟨oc,od,.func (fH x x (lH (top i)) (bc (top i)) (aa (top i)) .none kV doc pm an ft ct),Ab⟩∧i7 K ft x=true∧dt K (.ref f)=true
theorem FT.mk' {K:ab} {x:Str} {i:Nat} {f:Addr} {oc:Value} {od an:Option Addr} {Ab:Array (Option Value)} {kV doc pm ft ct:Value} (a:cV K mainGlobals x=some (some (.ref f))) (l:K.lookup f=some ⟨oc,od,.func (fH x x (lH (top i)) (bc (top i)) (aa (top i)) .none kV doc pm an ft ct),Ab⟩) (c:i7 K ft x=true) (k:dt K (.ref f)=true):FT K x i:=⟨⟨f,oc,od,Ab,kV,doc,pm,an,ft,ct,a,l,c,k⟩⟩
structure CT (K:ab) (x:Str) (z:Int):Prop where
 ex:∃t,cV K mainGlobals x=some (some (.int z t))
theorem CT.mk' {K:ab} {x:Str} {z:Int} {t:Tok} (a:cV K mainGlobals x=some (some (.int z t))):CT K x z:=⟨t,a⟩
noncomputable abbrev z5:Stmt:=inClass (top 7) 0
structure KT (K:ab) (C:Addr):Prop where
 aC:cV K mainGlobals "Town" = some (some (.ref C))
 ini:∃f oc od Ab kV doc pm an ft ct,cK K (.ref C) "__init__" = some (some (.ref f))∧FK K (.ref f)=true∧K.lookup f=some ⟨oc,od,.func (fH "__init__" "Town.__init__" (lH z5) (bc z5) (aa z5) .none kV doc pm an ft ct),Ab⟩∧i7 K ft "Town.__init__" = true∧dt K (.ref f)=true
 T:pA K C
 mks:p9 K C=true
 kc:dt K (.ref C)=true
theorem KT.mk' {K:ab} {C f:Addr} {oc:Value} {od an:Option Addr} {Ab:Array (Option Value)} {kV doc pm ft ct:Value} (aC:cV K mainGlobals "Town" = some (some (.ref C))) (a1:cK K (.ref C) "__init__" = some (some (.ref f))) (i1:FK K (.ref f)=true) (l1:K.lookup f=some ⟨oc,od,.func (fH "__init__" "Town.__init__" (lH z5) (bc z5) (aa z5) .none kV doc pm an ft ct),Ab⟩) (c1:i7 K ft "Town.__init__" = true) (k1:dt K (.ref f)=true)
  (pg:pK K C Str.empty=true) (hd:ou K C=true) (po:vM K C=true) (sa:cK K (.ref C) "__setattr__" = some (some (.builtin "object.__setattr__"))) (mk:p9 K C=true) (kc:dt K (.ref C)=true)
  (n1:cK K (.ref C) "n" = some none) (n2:cK K (.ref C) "cells" = some none) (n3:cK K (.ref C) "clues" = some none) (n4:cK K (.ref C) "earlier" = some none) (n5:cK K (.ref C) "later" = some none):∃C,KT K C :=
 ⟨C,aC,⟨f,oc,od,Ab,kV,doc,pm,an,ft,ct,a1,i1,l1,c1,k1⟩,⟨⟨pg,hd,po,sa⟩,n1,n2,n3,n4,n5⟩,mk,kc⟩
structure NB (K:ab):Prop where
 ex:∃a,cV K mainGlobals "NUMBERS_BEHIND" = some (some (.ref a))∧∀F,yc K F a (vL arity)
theorem NB.mk' {K:ab} {a:Addr} {od:Option Addr} {Ab:Array (Option Value)} {bU:Array Value} {n:Nat} (e:cV K mainGlobals "NUMBERS_BEHIND" = some (some (.ref a))) (l:K.lookup a=some ⟨.type "tuple",od,.seq bU n,Ab⟩) (v:Vals (vL arity) bU.toList) (z:bU.size≤sizeLine):NB K:=⟨a,e,fun _=>.inr ⟨_,bU,n,l,rfl,rfl,z,v⟩⟩
structure BT (K:ab):Prop where
 len:cV K mainGlobals "len" = some none
 range:cV K mainGlobals "range" = some none
 list:cV K mainGlobals "list" = some none
 reversed:cV K mainGlobals "reversed" = some none
 enumerate:cV K mainGlobals "enumerate" = some none
 zip:cV K mainGlobals "zip" = some none
 all:cV K mainGlobals "all" = some none
 any:cV K mainGlobals "any" = some none
 sum:cV K mainGlobals "sum" = some none
structure Tx (K:ab):Prop where
 jt:FT K "is_cell" 8
 ju:FT K "is_line" 9
 pE:FT K "line_cells" 10
 dG:FT K "line_towers" 11
 fZ:FT K "line_clue" 12
 dj:FT K "count_towers" 13
 nB:FT K "count_clues" 14
 eU:FT K "count_seen" 15
 xY:FT K "as_bits" 16
 rD:FT K "line_ways" 26
 orders:FT K "orders" 27
 holds:FT K "holds" 28
 fits:FT K "fits" 29
 xZ:FT K "is_same" 30
 x8:FT K "bits_at" 31
 nE:FT K "answer_line" 32
 dW:FT K "answer_hint" 33
 ir:FT K "rows_then_columns" 34
 pF:FT K "first_told" 35
 lX:FT K "answer_solve" 36
 f6:FT K "town_ways" 38
 i4:FT K "with_another_row" 39
 lY:FT K "column_marks" 40
 nG:FT K "columns_fit" 41
 lZ:FT K "answer_count" 42
 pG:FT K "answer_nth" 43
 nI:FT K "answer_sure" 44
 l4:FT K "answer_could" 45
 l5:FT K "answer_known" 46
 l6:FT K "answer_build" 48
 nJ:FT K "answer_tear" 49
 nL:FT K "answer_tell" 50
 l7:FT K "answer_clear" 51
 nM:FT K "answer_fill" 52
 l8:FT K "answer_spare" 54
 kQ:FT K "needed_places" 55
 gS:FT K "ways_without_clues" 56
 eZ:FT K "only_wrong" 57
 l9:FT K "answer_views" 58
 pH:FT K "answer_ask" 59
 mT:FT K "town_views" 60
 rE:FT K "moment_of" 63
 uB:FT K "bring_to" 64
 uC:FT K "remember" 65
 nO:FT K "answer_back" 66
 l_:FT K "answer_again" 67
 rF:FT K "answer_at" 69
 ma:FT K "free_heights" 70
 nP:FT K "answer_seen" 71
 nQ:FT K "answer_clue" 72
 md:FT K "answer_clash" 73
 pI:FT K "like_pairs" 74
 i5:FT K "like_pairs_along" 75
 nR:FT K "wrong_clues" 76
 uD:FT K "is_wrong" 77
 nS:FT K "answer_done" 78
 me:FT K "answer_state" 79
 mf:FT K "answer_start" 86
 eV:FT K "text_lines" 87
 g9:FT K "has_form" 88
 eW:FT K "read_cells" 89
 eX:FT K "read_clues" 90
 pJ:FT K "read_signs" 91
 rG:FT K "read_sign" 92
 nT:FT K "answer_turn" 94
 kR:FT K "answer_mirror" 95
 dX:FT K "towers_from" 96
 eY:FT K "side_clues" 97
 nU:FT K "answer_text" 99
 fG:FT K "edge_line" 100
 hC:FT K "row_line" 101
 g_:FT K "signs_of" 102
 answers:FT K "answers" 132
 nV:FT K "answer_call" 133
 kS:FT K "answer_change" 134
 gx:FT K "answer_given_change" 135
 gy:FT K "answer_whole_change" 136
 j8:FT K "answer_of_ways" 137
 nW:FT K "answer_look" 138
 fm:CT K "NO_SUCH" (-22)
 eJ:CT K "NONE_THERE" (-2)
 dN:CT K "TOWER_STANDS" (-17)
 gD:CT K "NO_TOWER" (-12)
 gh:CT K "NOT_BEGUN" (-61)
 jl:CT K "NO_TOWN" (-71)
 gQ:CT K "NO_WAY" (-33)
 js:CT K "UNSURE" (-6)
 dO:CT K "HIGHEST_SIZE" (4)
 jy:CT K "ABOVE" (0)
 lq:CT K "RIGHT" (1)
 lr:CT K "BELOW" (2)
 mN:CT K "LEFT" (3)
 j7:CT K "SIDES" (4)
 dP:CT K "MOST_CHANGES" (20)
 fF:CT K "LINE_END" (10)
 lu:CT K "BLANK" (32)
 wO:CT K "DOT" (46)
 dU:CT K "DIGIT_ZERO" (48)
 iM:CT K "NO_SIGN" (-1)
 oe:CT K "START" (0)
 og:CT K "BUILD" (1)
 si:CT K "TEAR" (2)
 sj:CT K "TELL" (3)
 Mp:CT K "AT" (4)
 qK:CT K "SEEN" (5)
 qL:CT K "CLUE" (6)
 mO:CT K "CLASH" (7)
 qM:CT K "DONE" (8)
 mP:CT K "COUNT" (9)
 zo:CT K "NTH" (10)
 qN:CT K "SURE" (11)
 mQ:CT K "COULD" (12)
 mR:CT K "KNOWN" (13)
 qO:CT K "LINE" (14)
 qP:CT K "HINT" (15)
 oh:CT K "SOLVE" (16)
 sk:CT K "FILL" (17)
 oi:CT K "SPARE" (18)
 mS:CT K "VIEWS" (19)
 oj:CT K "CLEAR" (20)
 AO:CT K "ASK" (21)
 so:CT K "TURN" (22)
 kP:CT K "MIRROR" (23)
 qQ:CT K "TEXT" (24)
 sq:CT K "BACK" (25)
 om:CT K "AGAIN" (26)
 nb:NB K
 bt:BT K
 kt:∃C,KT K C
section
variable {P:Program} {w:World} {K:ab} {h:Heap} {mg:Str→Option Value}
theorem bL {x:Str} {i:Nat} {ps:List Str} (X:K.In h) (G:h.Ns mainGlobals mg) (F:FT K x i) (hb:∀(kV doc pm:Value) (an:Option Addr) (ft ct:Value) (us:List Value),us.length=ps.length→bindArgs (fH x x (lH (top i)) (bc (top i)) (aa (top i)) .none kV doc pm an ft ct) ⟨us,[]⟩=pure (ps.zip us)):Dd K mg x i ps:=by
 obtain ⟨f,oc,od,Ab,kV,doc,pm,an,ft,ct,a,l,c,k⟩:=F.ex
 exact ⟨f,_,Cz l c k,oO X G a,(Cz (st:=top i) l c k).binds hb⟩
theorem mU {x:Str} {z:Int} (X:K.In h) (G:h.Ns mainGlobals mg) (F:CT K x z):k7 K mg x (.int z):=by
 obtain ⟨t,e⟩:=F.ex
 exact ⟨_,.int z,oO X G e,⟨t,rfl⟩,fun F=>bR z⟩
theorem U1 (X:K.In h) (G:h.Ns mainGlobals mg) (t:Tx K):Ds K mg where
 jt:=bL X G t.jt (fun _ _ _ _ _ _ us hl=>match us,hl with|[_,_],_=>rfl)
 ju:=bL X G t.ju (fun _ _ _ _ _ _ us hl=>match us,hl with|[_,_,_],_=>rfl)
 pE:=bL X G t.pE (fun _ _ _ _ _ _ us hl=>match us,hl with|[_,_,_],_=>rfl)
 dG:=bL X G t.dG (fun _ _ _ _ _ _ us hl=>match us,hl with|[_,_,_],_=>rfl)
 fZ:=bL X G t.fZ (fun _ _ _ _ _ _ us hl=>match us,hl with|[_,_,_],_=>rfl)
 dj:=bL X G t.dj (fun _ _ _ _ _ _ us hl=>match us,hl with|[_],_=>rfl)
 nB:=bL X G t.nB (fun _ _ _ _ _ _ us hl=>match us,hl with|[_],_=>rfl)
 eU:=bL X G t.eU (fun _ _ _ _ _ _ us hl=>match us,hl with|[_],_=>rfl)
 xY:=bL X G t.xY (fun _ _ _ _ _ _ us hl=>match us,hl with|[_],_=>rfl)
 rD:=bL X G t.rD (fun _ _ _ _ _ _ us hl=>match us,hl with|[_,_,_],_=>rfl)
 orders:=bL X G t.orders (fun _ _ _ _ _ _ us hl=>match us,hl with|[_],_=>rfl)
 holds:=bL X G t.holds (fun _ _ _ _ _ _ us hl=>match us,hl with|[_,_],_=>rfl)
 fits:=bL X G t.fits (fun _ _ _ _ _ _ us hl=>match us,hl with|[_,_,_],_=>rfl)
 xZ:=bL X G t.xZ (fun _ _ _ _ _ _ us hl=>match us,hl with|[_,_],_=>rfl)
 x8:=bL X G t.x8 (fun _ _ _ _ _ _ us hl=>match us,hl with|[_,_],_=>rfl)
 nE:=bL X G t.nE (fun _ _ _ _ _ _ us hl=>match us,hl with|[_,_,_],_=>rfl)
 dW:=bL X G t.dW (fun _ _ _ _ _ _ us hl=>match us,hl with|[_],_=>rfl)
 ir:=bL X G t.ir (fun _ _ _ _ _ _ us hl=>match us,hl with|[_],_=>rfl)
 pF:=bL X G t.pF (fun _ _ _ _ _ _ us hl=>match us,hl with|[_,_,_],_=>rfl)
 lX:=bL X G t.lX (fun _ _ _ _ _ _ us hl=>match us,hl with|[_],_=>rfl)
 f6:=bL X G t.f6 (fun _ _ _ _ _ _ us hl=>match us,hl with|[_],_=>rfl)
 i4:=bL X G t.i4 (fun _ _ _ _ _ _ us hl=>match us,hl with|[_,_],_=>rfl)
 lY:=bL X G t.lY (fun _ _ _ _ _ _ us hl=>match us,hl with|[_],_=>rfl)
 nG:=bL X G t.nG (fun _ _ _ _ _ _ us hl=>match us,hl with|[_,_],_=>rfl)
 lZ:=bL X G t.lZ (fun _ _ _ _ _ _ us hl=>match us,hl with|[_],_=>rfl)
 pG:=bL X G t.pG (fun _ _ _ _ _ _ us hl=>match us,hl with|[_,_],_=>rfl)
 nI:=bL X G t.nI (fun _ _ _ _ _ _ us hl=>match us,hl with|[_,_],_=>rfl)
 l4:=bL X G t.l4 (fun _ _ _ _ _ _ us hl=>match us,hl with|[_,_],_=>rfl)
 l5:=bL X G t.l5 (fun _ _ _ _ _ _ us hl=>match us,hl with|[_],_=>rfl)
 l6:=bL X G t.l6 (fun _ _ _ _ _ _ us hl=>match us,hl with|[_,_,_],_=>rfl)
 nJ:=bL X G t.nJ (fun _ _ _ _ _ _ us hl=>match us,hl with|[_,_],_=>rfl)
 nL:=bL X G t.nL (fun _ _ _ _ _ _ us hl=>match us,hl with|[_,_,_,_],_=>rfl)
 l7:=bL X G t.l7 (fun _ _ _ _ _ _ us hl=>match us,hl with|[_],_=>rfl)
 nM:=bL X G t.nM (fun _ _ _ _ _ _ us hl=>match us,hl with|[_,_],_=>rfl)
 l8:=bL X G t.l8 (fun _ _ _ _ _ _ us hl=>match us,hl with|[_],_=>rfl)
 kQ:=bL X G t.kQ (fun _ _ _ _ _ _ us hl=>match us,hl with|[_,_],_=>rfl)
 gS:=bL X G t.gS (fun _ _ _ _ _ _ us hl=>match us,hl with|[_],_=>rfl)
 eZ:=bL X G t.eZ (fun _ _ _ _ _ _ us hl=>match us,hl with|[_,_],_=>rfl)
 l9:=bL X G t.l9 (fun _ _ _ _ _ _ us hl=>match us,hl with|[_],_=>rfl)
 pH:=bL X G t.pH (fun _ _ _ _ _ _ us hl=>match us,hl with|[_],_=>rfl)
 mT:=bL X G t.mT (fun _ _ _ _ _ _ us hl=>match us,hl with|[_],_=>rfl)
 rE:=bL X G t.rE (fun _ _ _ _ _ _ us hl=>match us,hl with|[_],_=>rfl)
 uB:=bL X G t.uB (fun _ _ _ _ _ _ us hl=>match us,hl with|[_,_],_=>rfl)
 uC:=bL X G t.uC (fun _ _ _ _ _ _ us hl=>match us,hl with|[_,_],_=>rfl)
 nO:=bL X G t.nO (fun _ _ _ _ _ _ us hl=>match us,hl with|[_],_=>rfl)
 l_:=bL X G t.l_ (fun _ _ _ _ _ _ us hl=>match us,hl with|[_],_=>rfl)
 rF:=bL X G t.rF (fun _ _ _ _ _ _ us hl=>match us,hl with|[_,_],_=>rfl)
 ma:=bL X G t.ma (fun _ _ _ _ _ _ us hl=>match us,hl with|[_,_],_=>rfl)
 nP:=bL X G t.nP (fun _ _ _ _ _ _ us hl=>match us,hl with|[_,_,_],_=>rfl)
 nQ:=bL X G t.nQ (fun _ _ _ _ _ _ us hl=>match us,hl with|[_,_,_],_=>rfl)
 md:=bL X G t.md (fun _ _ _ _ _ _ us hl=>match us,hl with|[_],_=>rfl)
 pI:=bL X G t.pI (fun _ _ _ _ _ _ us hl=>match us,hl with|[_],_=>rfl)
 i5:=bL X G t.i5 (fun _ _ _ _ _ _ us hl=>match us,hl with|[_],_=>rfl)
 nR:=bL X G t.nR (fun _ _ _ _ _ _ us hl=>match us,hl with|[_],_=>rfl)
 uD:=bL X G t.uD (fun _ _ _ _ _ _ us hl=>match us,hl with|[_,_],_=>rfl)
 nS:=bL X G t.nS (fun _ _ _ _ _ _ us hl=>match us,hl with|[_],_=>rfl)
 me:=bL X G t.me (fun _ _ _ _ _ _ us hl=>match us,hl with|[_],_=>rfl)
 mf:=bL X G t.mf (fun _ _ _ _ _ _ us hl=>match us,hl with|[_,_,_],_=>rfl)
 eV:=bL X G t.eV (fun _ _ _ _ _ _ us hl=>match us,hl with|[_],_=>rfl)
 g9:=bL X G t.g9 (fun _ _ _ _ _ _ us hl=>match us,hl with|[_,_],_=>rfl)
 eW:=bL X G t.eW (fun _ _ _ _ _ _ us hl=>match us,hl with|[_,_],_=>rfl)
 eX:=bL X G t.eX (fun _ _ _ _ _ _ us hl=>match us,hl with|[_,_],_=>rfl)
 pJ:=bL X G t.pJ (fun _ _ _ _ _ _ us hl=>match us,hl with|[_,_],_=>rfl)
 rG:=bL X G t.rG (fun _ _ _ _ _ _ us hl=>match us,hl with|[_,_],_=>rfl)
 nT:=bL X G t.nT (fun _ _ _ _ _ _ us hl=>match us,hl with|[_],_=>rfl)
 kR:=bL X G t.kR (fun _ _ _ _ _ _ us hl=>match us,hl with|[_],_=>rfl)
 dX:=bL X G t.dX (fun _ _ _ _ _ _ us hl=>match us,hl with|[_,_],_=>rfl)
 eY:=bL X G t.eY (fun _ _ _ _ _ _ us hl=>match us,hl with|[_,_],_=>rfl)
 nU:=bL X G t.nU (fun _ _ _ _ _ _ us hl=>match us,hl with|[_],_=>rfl)
 fG:=bL X G t.fG (fun _ _ _ _ _ _ us hl=>match us,hl with|[_,_],_=>rfl)
 hC:=bL X G t.hC (fun _ _ _ _ _ _ us hl=>match us,hl with|[_,_],_=>rfl)
 g_:=bL X G t.g_ (fun _ _ _ _ _ _ us hl=>match us,hl with|[_],_=>rfl)
 nV:=bL X G t.nV (fun _ _ _ _ _ _ us hl=>match us,hl with|[_,_,_],_=>rfl)
 kS:=bL X G t.kS (fun _ _ _ _ _ _ us hl=>match us,hl with|[_,_,_],_=>rfl)
 gx:=bL X G t.gx (fun _ _ _ _ _ _ us hl=>match us,hl with|[_,_,_],_=>rfl)
 gy:=bL X G t.gy (fun _ _ _ _ _ _ us hl=>match us,hl with|[_,_],_=>rfl)
 j8:=bL X G t.j8 (fun _ _ _ _ _ _ us hl=>match us,hl with|[_,_,_],_=>rfl)
 nW:=bL X G t.nW (fun _ _ _ _ _ _ us hl=>match us,hl with|[_,_,_],_=>rfl)
theorem U2 {C:Addr} (X:K.In h) (G:h.Ns mainGlobals mg) (t:Tx K) (k:KT K C):Wd K mg C where
 T:=k.T
 bl:=⟨dI X G t.bt.len,dI X G t.bt.range,dI X G t.bt.list,dI X G t.bt.reversed,dI X G t.bt.enumerate,dI X G t.bt.zip,dI X G t.bt.all,dI X G t.bt.any,dI X G t.bt.sum⟩
 fm:=mU X G t.fm
 eJ:=mU X G t.eJ
 dN:=mU X G t.dN
 gD:=mU X G t.gD
 gh:=mU X G t.gh
 jl:=mU X G t.jl
 gQ:=mU X G t.gQ
 js:=mU X G t.js
 dO:=mU X G t.dO
 jy:=mU X G t.jy
 lq:=mU X G t.lq
 lr:=mU X G t.lr
 mN:=mU X G t.mN
 j7:=mU X G t.j7
 dP:=mU X G t.dP
 fF:=mU X G t.fF
 lu:=mU X G t.lu
 wO:=mU X G t.wO
 dU:=mU X G t.dU
 iM:=mU X G t.iM
 oe:=mU X G t.oe
 og:=mU X G t.og
 si:=mU X G t.si
 sj:=mU X G t.sj
 Mp:=mU X G t.Mp
 qK:=mU X G t.qK
 qL:=mU X G t.qL
 mO:=mU X G t.mO
 qM:=mU X G t.qM
 mP:=mU X G t.mP
 zo:=mU X G t.zo
 qN:=mU X G t.qN
 mQ:=mU X G t.mQ
 mR:=mU X G t.mR
 qO:=mU X G t.qO
 qP:=mU X G t.qP
 oh:=mU X G t.oh
 sk:=mU X G t.sk
 oi:=mU X G t.oi
 mS:=mU X G t.mS
 oj:=mU X G t.oj
 AO:=mU X G t.AO
 so:=mU X G t.so
 kP:=mU X G t.kP
 qQ:=mU X G t.qQ
 sq:=mU X G t.sq
 om:=mU X G t.om
 Pp:=by
  obtain ⟨a,e,s⟩:=t.nb.ex
  exact ⟨_,.ref a,oO X G e,rfl,fun F=>yp (s F) (mM _)⟩
theorem all_mk {fa:Addr} (X:K.In h) (G:h.Ns mainGlobals mg) (hfa:mg "answers" = some (.ref fa)) (t:Tx K):∃fd:FuncData,(∀(s:Shared) (us:List Value),us.length=(["calls"]:List Str).length→BindsTo s fd ⟨us,[]⟩ ((["calls"]:List Str).zip us))∧∀base:Heap,K.In base→base.Ns mainGlobals mg→eS P w K mg base iR 100 fa fd ["calls"] (IS K):=by
 obtain ⟨f,oc,od,Ab,kV,doc,pm,an,ft,ct,a,l,c,k⟩:=t.answers.ex
 have e:=hfa.symm.trans (oO X G a)
 cases e
 obtain ⟨C,kt⟩:=t.kt
 obtain ⟨f1,oc1,od1,abe,kV1,abf,pm1,an1,abg,ct1,a1,i1,l1,c1,k1⟩:=kt.ini
 have F1:=Cz (st:=z5) l1 c1 k1
 have bI:Binds K _ ["self"] []:=F1.binds (ps:=["self"]) fun _ _ _ _ _ _ us hl=>match us,hl with|[_],_=>rfl
 refine ⟨_,fun s us hu=>match us,hu with|[_],_=>.of_eq rfl,fun base _ _=>Hg (C:=C) (Cz (st:=top 132) l c k) (U2 X G t kt) (U1 X G t) ⟨f1,_,⟨kt.mks,a1,i1,kt.kc⟩,Dinit.ok F1 kt.T,oO X G kt.aC,bI⟩⟩
end
end Tn
open PySem PySem.W PyProof.Rows
namespace PySem.W.Fast
def tw12809429261339206459:=Nat
def tw12017270989320502573:=Nat
def tw8888200467280001302:=Nat
def tw10425340264138796970:=Nat
def tw9253425534043488617:=Nat
def tw4451971839214156585:=Nat
def tw14841077711562029476:=Nat
def tw4331128673481861122:=Nat
def tw12613656531895876096:=Nat
def tw8465324949208431195:=Nat
def tw4673230814920270251:=Nat
def tw777577736737094130:=Nat
def tw10988728580843484972:=Nat
def tw16552574565096714826:=Nat
def tw7573127068478240508:=Nat
def tw3630725909696133248:=Nat
def tw9690298431074995293:=Nat
def tw9558163761066184312:=Nat
def tw400290119760785770:=Nat
def tw11211723110523430460:=Nat
def tw6486487582904143315:=Nat
def tw6130434863195788997:=Nat
def tw10518077815349187533:=Nat
def tw2467794339014212831:=Nat
def tw6010920172324990068:=Nat
def tw5430559938665710017:=Nat
def tw11268140926722997757:=Nat
def tw17053261825385615986:=Nat
def tw12771041602279480443:=Nat
def tw13314534085488856009:=Nat
def tw2160062133613823146:=Nat
def tw8089931116078209477:=Nat
def tw9665072083015052851:=Nat
def tw11445771659829686028:=Nat
def tw15480197093339357852:=Nat
def tw2747436138528905221:=Nat
def tw10498381587402976232:=Nat
def tw2216553793634250393:=Nat
def tw12592745926134663783:=Nat
def tw2882429955185340693:=Nat
def tw3837728385456395323:=Nat
def tw5845603299416809284:=Nat
def tw14623601958848518590:=Nat
def tw6523792246913929282:=Nat
def tw6053342980549510228:=Nat
def tw15830228787978118995:=Nat
def tw5056615498918100711:=Nat
def tw13036842773974820506:=Nat
def tw17382986386020525258:=Nat
def tw12877896715721462797:=Nat
def tw527917787318484446:=Nat
def tw14706038871829444425:=Nat
def tw2982124642761040015:=Nat
def tw17881525227457584490:=Nat
def tw243078163369759338:=Nat
def tw5104178733163441247:=Nat
def tw488603609199927908:=Nat
def tw8317087313724827817:=Nat
def tw16421073601368415827:=Nat
def tw16654326023965226075:=Nat
def tw2047145954083257618:=Nat
def tw2683248943628085975:=Nat
def tw15342637596819068029:=Nat
def tw16811080444818116178:=Nat
def tw11251972762539463701:=Nat
def tw15521059367105178415:=Nat
def tw15932117922436691725:=Nat
def tw10195885341443098566:=Nat
def tw17953710788081421989:=Nat
def tw2326187644008923194:=Nat
def tw16135269361268068205:=Nat
def tw11688439373569487289:=Nat
def tw1573232146094810229:=Nat
def tw7314090984536091803:=Nat
def tw5216839716428140835:=Nat
def tw3719403972185652981:=Nat
def tw8444230655034401839:=Nat
def tw15969203347392579809:=Nat
def tw9371980275777534013:=Nat
def tw10448557825524121406:=Nat
def tw14165640587567213879:=Nat
def tw14798331017025839369:=Nat
def tw4507681308931648679:=Nat
def tw12143914954136682184:=Nat
def tw17263929788970471022:=Nat
def tw12775035214680654564:=Nat
def tw10592891943630932318:=Nat
def tw4019100929343792590:=Nat
def tw2112089622388707438:=Nat
def tw875949027314580531:=Nat
def tw13543378060501394673:=Nat
def tw13296550161440124043:=Nat
def tw18291453256022439242:=Nat
def tw5627379495308885269:=Nat
def tw5176707665655383480:=Nat
def tw2358868534989790744:=Nat
def tw7897661764115491014:=Nat
def tw12329165725227607112:=Nat
def tw5861108960272819313:=Nat
def tw16426838246072962693:=Nat
def tw17551417912632000645:=Nat
def tw13341465747290757371:=Nat
def tw7687097777904443750:=Nat
def tw2720444827556838620:=Nat
def tw12398510424030471202:=Nat
def tw17443576313904987465:=Nat
def tw16834216817986682930:=Nat
def tw6240166219545838442:=Nat
def tw9940380617552400757:=Nat
def tw12274385828624446999:=Nat
def tw6174636947626971043:=Nat
def tw12023566527713288322:=Nat
def tw6506812003578384466:=Nat
def tw2812566806629128403:=Nat
def tw14546357794190648627:=Nat
def tw17041110841485022024:=Nat
def tw9114225969534053523:=Nat
def tw1643980423990480851:=Nat
def tw18261245233120011144:=Nat
def tw7670223020330443435:=Nat
def tw16328277061531120056:=Nat
def tw798798774710535329:=Nat
def tw9793854787329954833:=Nat
def tw13927166737287832451:=Nat
def tw18247452564365993632:=Nat
def tw14448198903665556301:=Nat
def tw17419277804214735800:=Nat
def tw12134426415314148880:=Nat
def tw628962940829396954:=Nat
def tw12218049334657191179:=Nat
def tw2916658965585422416:=Nat
def tw8812748904614311194:=Nat
def tw2741539918545651087:=Nat
def tw6102221942314751150:=Nat
def tw142985041436049251:=Nat
def tw2682782363665006839:=Nat
def tw11822295963068522992:=Nat
def tw6959834304826481363:=Nat
def tw11696003323930302314:=Nat
def tw1229732109243546280:=Nat
def tw4658814301866599429:=Nat
def tw15645246558123252266:=Nat
def tw16094568542381715588:=Nat
def tw11930243364494559470:=Nat
def tw1261573447686296876:=Nat
def tw13101171126564106160:=Nat
def tw15998360061120595958:=Nat
def tw13533079911853068294:=Nat
def tw10748123035564723488:=Nat
def tw4236959143427200983:=Nat
def tw3281883276362539226:=Nat
def tw13371007814647256755:=Nat
def tw15942319519083823763:=Nat
def tw17967667542414507455:=Nat
def tw14310446300653333188:=Nat
def tw16833225399956747218:=Nat
def tw5861026493461166958:=Nat
def tw8676154271805148186:=Nat
def tw2711690284748775421:=Nat
def tw11273427875425940778:=Nat
def tw13764948863771122953:=Nat
def tw17926865866665959882:=Nat
def tw16955855085610691211:=Nat
def tw6602858533951386971:=Nat
def tw14565860359380148638:=Nat
def tw12143568014095475528:=Nat
def tw6968197074652337021:=Nat
def tw5717054558485551554:=Nat
def tw9167620912578322018:=Nat
def tw16089511948800254843:=Nat
def tw1447630384945473886:=Nat
def tw7093443473873158978:=Nat
def tw5490810365311326657:=Nat
def tw13332483420163619192:=Nat
def tw17532402320258636537:=Nat
def tw12727103676787724804:=Nat
def tw8995820057379219419:=Nat
def tw17962738707651584564:=Nat
def tw10756101268035517228:=Nat
def tw14962221010245051019:=Nat
def tw17292900843700775254:=Nat
def tw10519070734834124047:=Nat
def tw15211603884476292856:=Nat
def tw11484533494857642694:=Nat
def tw966695560041212825:=Nat
def tw5654267777882888211:=Nat
def tw18036410869007042508:=Nat
def tw6000718584551659424:=Nat
def tw3217899895388433846:=Nat
def tw8537413060520976252:=Nat
def tw2544108309810114542:=Nat
def tw11372843507361777125:=Nat
def tw15770179431028814300:=Nat
def tw15768189275802796538:=Nat
def tw2958135280810033065:=Nat
def tw5467220981520248074:=Nat
def tw17345446274362426043:=Nat
def tw7899897465944399146:=Nat
def tw11410312900509447308:=Nat
def tw9219358516029899301:=Nat
def tw16948919253480880769:=Nat
def tw12746113904094687914:=Nat
def tw9789269341042842384:=Nat
def tw1471037948931977831:=Nat
def tw9558047956122383602:=Nat
def tw6234062893620564877:=Nat
def tw3597362401398382458:=Nat
def tw12986589765367087725:=Nat
def tw15895725467377415812:=Nat
def tw15334381648532503676:=Nat
def tw16529210024525823398:=Nat
def tw8912221150197997770:=Nat
def tw3975685688566196930:=Nat
def tw3798766315451288566:=Nat
def tw10481258850914857462:=Nat
def tw8957379407634849701:=Nat
def tw14203297128214273406:=Nat
def tw6567436279883457329:=Nat
def tw5533836027159287276:=Nat
def tw6369383113323328263:=Nat
def tw11554094008938154092:=Nat
def tw182672248176871896:=Nat
def tw12616126477554227750:=Nat
def tw42793834075682931:=Nat
def tw8925898900930241942:=Nat
def tw6837748341392526102:=Nat
def tw11605875500285691359:=Nat
def tw14383547796105583640:=Nat
def tw12202004040718055549:=Nat
def tw7552941295153045650:=Nat
def tw5329112300098602603:=Nat
def tw4051754886928897100:=Nat
def tw218877122377103634:=Nat
def tw14267052376958422977:=Nat
def tw7635733272447927427:=Nat
def tw5609196615400870757:=Nat
def tw12862595709195416638:=Nat
def tw1083242059953130448:=Nat
def tw6412810459546349618:=Nat
def tw7988939354374127452:=Nat
def tw16597150346565255975:=Nat
def tw5516772156885387013:=Nat
def tw5433311122874736354:=Nat
def tw15268199592468134735:=Nat
def tw11673473687465677042:=Nat
def tw2051477410864299460:=Nat
def tw11539425745951400020:=Nat
def tw316781956414145412:=Nat
def tw72427657316167211:=Nat
def tw14051984915337042646:=Nat
def tw17738832823149462200:=Nat
def tw13083565348638161153:=Nat
def tw11262170911916346130:=Nat
def tw1805003262165867796:=Nat
def tw14136676067680515684:=Nat
def tw15580437200409041859:=Nat
def tw3243098036537664770:=Nat
def tw4702609753221177447:=Nat
def tw2106333962563421859:=Nat
def tw13686917100433011264:=Nat
def tw11082559985030069473:=Nat
def tw205601877027842175:=Nat
def tw998826766652783178:=Nat
def tw16240438576389512111:=Nat
def tw16005719472661954522:=Nat
def tw6030061370516128351:=Nat
def tw10171969860214995903:=Nat
def tw18308105828360612788:=Nat
def tw4953641347957754977:=Nat
def tw1374689409544074570:=Nat
def tw6022990224385055711:=Nat
def tw11688115372180966925:=Nat
def tw792939464631621375:=Nat
def tw15330466458278934025:=Nat
def tw10357678030017725250:=Nat
def tw18036454537344255556:=Nat
def tw315417679155311364:=Nat
def tw10444011814274300190:=Nat
def tw8787735784438884295:=Nat
def tw14837426019332761470:=Nat
def tw2159805097414891234:=Nat
def tw15006469431965878572:=Nat
def tw3226261555045202128:=Nat
def tw3661653571152117059:=Nat
def tw17138605286894112523:=Nat
def tw5226401774815376265:=Nat
def tw6700725237141891469:=Nat
def tw10978954367378559891:=Nat
def tw15440821119508294871:=Nat
def tw3949200635711073763:=Nat
def tw14164927430340537194:=Nat
def tw4708892560996706334:=Nat
def tw622812623596073691:=Nat
def tw1932081182969879615:=Nat
def tw2023679435564783045:=Nat
def tw17571394431971613566:=Nat
def tw6564699650738277761:=Nat
def tw1161837403135572715:=Nat
def tw9942258796960401738:=Nat
def tw1794271774551137577:=Nat
def tw16946798191535309267:=Nat
def tw10490005607674508444:=Nat
def tw15942684168583555881:=Nat
def tw8070469625460963308:=Nat
def tw18338774867214117332:=Nat
def tw8951668406778992996:=Nat
def tw2221545944504428059:=Nat
def tw18166870240685313570:=Nat
def tw13119950704073219351:=Nat
def tw1939899477522738695:=Nat
def tw13113867669554356425:=Nat
def tw5406223894553226218:=Nat
def tw4162047491133732151:=Nat
def tw16616998961389167387:=Nat
def tw15646668540473094543:=Nat
def tw5330354186706521903:=Nat
def tw2498304349442714158:=Nat
def tw6692779161027185319:=Nat
def tw16080402818378790114:=Nat
def tw17444850607974955797:=Nat
def tw10883992236589772755:=Nat
def tw4086822491918849221:=Nat
def tw10847829043228743910:=Nat
def tw10710510453747616088:=Nat
def tw9611908744784580739:=Nat
def tw9326503028623003194:=Nat
def tw13686212459369723260:=Nat
def tw15271015071909182565:=Nat
def tw16437804687481762221:=Nat
def tw6295557312647831199:=Nat
def tw669229312206781471:=Nat
def tw1226475458194692298:=Nat
def tw10912425706535737411:=Nat
def tw4221661423748017647:=Nat
def tw10916774407981390322:=Nat
def tw5367963401036089147:=Nat
def tw16489827326143838022:=Nat
def tw5612312095124036084:=Nat
def tw14336704413620854786:=Nat
def tw8199886478558550509:=Nat
def tw4493939869213878110:=Nat
def tw14155802067261662148:=Nat
def tw6782315020084186718:=Nat
def tw1313884588840190678:=Nat
def tw16024433983565749636:=Nat
def tw12790877393418564597:=Nat
def tw11876203740698857638:=Nat
def tw2543690843120458023:=Nat
def tw6836494501440958351:=Nat
def tw5035027185671318777:=Nat
def tw9475635757242221974:=Nat
def tw7968675748289267884:=Nat
def tw16216619518856547962:=Nat
def tw6845095789565918463:=Nat
end PySem.W.Fast
set_option maxHeartbeats 0 in
theorem PySem.Challenge.cw_townclues_s01_answers_holds : PySem.Challenge.rw_townclues_s01_answers.Holds := by
 w_on;k_headS;(case hw=>exact ⟨[.list [.int 7]],by decide +kernel,by decide +kernel⟩)
 k_fillS
 refine L2.Gm (r:=PySem.Challenge.rw_townclues_s01_answers) (k:=100) (CX:=L2.iR) (ps:=["calls"]) (sp:=Tn.IS) (by decide +kernel) rfl rfl ⟨rfl,by decide,by decide⟩ (fun w h Y=>PySem.W.kIn_of Y) ?F ?S (fun _ _ _ _ z=>z)
 case F =>
  intro w mg fa h Y KX G WX
  refine Tn.all_mk KX G WX ?tx
  constructor
  iterate 79 (focus refine' Tn.FT.mk' ?a ?l ?c ?k;(case a=>k_is);(case l=>k_is);(case c=>k_is);(case k=>k_is))
  iterate 47 (focus refine' Tn.CT.mk' ?a;(case a=>k_is))
  ·refine' Tn.NB.mk' ?e ?l ?v ?z
   (case e=>k_is);(case l=>k_is)
   (case v=>exact (.cons ⟨_,rfl⟩ (.cons ⟨_,rfl⟩ (.cons ⟨_,rfl⟩ (.cons ⟨_,rfl⟩ (.cons ⟨_,rfl⟩ (.cons ⟨_,rfl⟩ (.cons ⟨_,rfl⟩ (.cons ⟨_,rfl⟩ (.cons ⟨_,rfl⟩ (.cons ⟨_,rfl⟩ (.cons ⟨_,rfl⟩ (.cons ⟨_,rfl⟩ (.cons ⟨_,rfl⟩ (.cons ⟨_,rfl⟩ (.cons ⟨_,rfl⟩ (.cons ⟨_,rfl⟩ (.cons ⟨_,rfl⟩ (.cons ⟨_,rfl⟩ (.cons ⟨_,rfl⟩ (.cons ⟨_,rfl⟩ (.cons ⟨_,rfl⟩ (.cons ⟨_,rfl⟩ (.cons ⟨_,rfl⟩ (.cons ⟨_,rfl⟩ (.cons ⟨_,rfl⟩ (.cons ⟨_,rfl⟩ (.cons ⟨_,rfl⟩ (.cons ⟨_,rfl⟩ .nil)))))))))))))))))))))))))))))
   (case z=>decide)
  ·constructor<;>k_is
  ·refine' Tn.KT.mk' ?aC ?a1 ?i1 ?l1 ?c1 ?k1 ?pg ?hd ?po ?sa ?mk ?kc ?n1 ?n2 ?n3 ?n4 ?n5
   (case aC=>k_is);(case a1=>k_is);(case i1=>k_is);(case l1=>k_is);(case c1=>k_is);(case k1=>k_is);(case pg=>k_is);(case hd=>k_is);(case po=>k_is);(case sa=>k_is);(case mk=>k_is);(case kc=>k_is);(case n1=>k_is);(case n2=>k_is);(case n3=>k_is);(case n4=>k_is);(case n5=>k_is)
 case S =>
  intro K H xs a hO W0 X9 hx
  cases hx with
  | cons h1 h2 =>
   cases h2
   cases h1 with
   | lst hs ha =>
    have e:=L2.HI a.1 _ ha
    subst e
    obtain ⟨ks,wf,_,e2,e3,e4⟩:=Tn.Rm (l:=a.1) X9
    have ev:a.1.map L2.V.int=Tn.vL (ks.flatMap Tn.Cl.flat):=by
     rw [e2];unfold Tn.vL Tn.zs;rw [ba];rfl
    rw [ev] at hs
    refine ⟨_,ks,rfl,hs,wf,by rw [←e3];exact e4,fun H' p hp=>?_⟩
    rw [←e3] at hp
    exact .lst (L2.fo.of hp) (L2.HH _)
