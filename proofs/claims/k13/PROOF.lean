import PyProof.Rows.All
import Wide.All
import OpenK.AllK
import Wide.FinOn
import Lean
import PyProof.EqAt
import PyProof.EqKinds
import PyProof.TupleCall
import PySem.Challenge.RW_lanemap_k13_no_place
open List renaming length_map → yc2, getElem?_eq_getElem → yc4, getElem?_eq_some_iff → yc5, size_toArray → yc7, mem_cons_self → yc8, mem_cons_of_mem → yc9, getElem?_map → yca, mem_singleton → ycb, getD_eq_getElem?_getD → ycc, range → ycd, mem_of_getElem? → yce, mem_map → ycf, mem_cons → ycg, map_append → yci, length_append → ycr, mem_range → ycs, length_cons → yct, getElem?_append_left → ycu, map_cons → ycv, mem_append → ycw, mem_append_right → ycx, replicate → ycz, mem_filter → yd0, mem_iff_getElem? → yd1, length_range → yd2, length_take → yd4, length_singleton → yd5, getElem?_eq_none → yd6, take_length → yd8, zip → yda, filter_cons → ydb, mem_append_left → yde, map_map → ydg, nodup_cons → ydk, lookup_cons → ydl, length_filter_le → ydp, length_drop → ydt, getElem?_range → ydu, map_congr_left → ydv, pairwise_map → ydx, getElem?_append_right → ydz, append_nil → ye0, filterMap_cons → ye2, find?_cons → ye6, filter_append → ye7, all_eq_true → ye9, flatten_cons → yec, getElem?_toArray → yef, append_assoc → yek, nodup_append → yel, getElem?_set_self → yem, take_of_length_le → yen, Pairwise → yep, pairwise_iff_getElem → yeq, getElem?_set_ne → yet, reverse_cons → yeu, getElem?_cons_succ → yew, drop_of_length_le → yex, Perm → yey, forIn_cons → yf4, ext_getElem? → yf7, findIdx?_eq_some_iff_getElem → yfa, nodup_nil → yfd, replicate_succ → yff, map_nil → yfg, pairwise_singleton → yfh, mem_filterMap → yfk, length_set → yfn, foldl_cons → yfo, pairwise_lt_range → yfp, range_succ → yfq, eq_nil_of_length_eq_zero → yfs, length_replicate → yfu, forIn_nil → yfx, getElem_inj → yfz, mem_flatten → yg0, getElem_mem → yg1, filter_sublist → yg3, length_reverse → yg4, filterMap_cons_some → yg7, pairwise_cons → yg8, toArray → yg9, length_pos_of_mem → ygb, flatten_replicate_singleton → ygf, length → ygg, any_cons → ygh, take_append_drop → ygk, perm_append_comm → ygl, eq_nil_iff_forall_not_mem → ygn, map_eq_cons_iff → ygo, length_nil → ygr, filter_nil → ygt, find?_eq_none → yh0, lookup → yh3, filter_congr → yh7, mem_of_find?_eq_some → yh8, findIdx?_eq_none_iff → yha, map_drop → yhc, map_take → yhd, getElem?_take_of_lt → yhe, length_erase_of_mem → yhf, headD_eq_head?_getD → yhi, not_mem_nil → yhj, perm_middle → yhl, map_reverse → yhm, getLast?_cons_cons → yhp, of_mem_zip → yhx, filter_map → yi1, head?_eq_getElem? → yi7, filterMap_append → yi8, mem_erase_of_ne → yif, mem_of_mem_take → yig, getElem_toArray → yih, reverse_reverse → yik, all_cons → yim, length_pos_iff → yin, map_eq_nil_iff → yip, all_map → yix
open Nat renaming le_refl → yc6, ne_of_lt → ycj, lt_of_lt_of_le → ycm, lt_irrefl → yd3, zero_le → yd9, ne_of_gt → ydf, lt_succ_of_lt → ydi, lt_or_ge → ydq, le_of_lt_succ → ydr, le_trans → ydw, lt_trans → ye1, le_of_lt → yed, not_lt_zero → yee, lt_succ_self → yeh, succ_pos → yei, le_succ → yez, mod_lt → yf1, lt_trichotomy → yf6, zero_add → yfi, lt_of_le_of_lt → yfl, lt_of_succ_lt_succ → ygc, le_add_right → ygm, strongRecOn → ygs, sub_self → ygu, add_le_add_left → ygv, eq_zero_or_pos → yh1, add_right_comm → yh2, not_lt → yhk, min_eq_left → yi6, le_total → yiv, sub_zero → yiw
open Array renaming length_toList → ycn, getElem?_toList → ycy, getElem?_eq_getElem → ydj, getD_eq_getD_getElem? → ydn, replicate → yf5, forIn_toList → yfm, toList_filterMap → yfr, getElem?_eq_none → yft, getElem?_eq_some_iff → yg2, getD → ygd, size_map → ygy, getElem?_replicate → yhh, toList_append → yiq, foldl_toList → yiu
open PySem.W renaming Frag → yc3, nsIn → ych, keepIn → yck, codeIn → ycl, mg_of → yco, fnOf → ycq, kitOne → yd7, mg_none_of → ydd, findIn → yds, kia_one → ye5, mroIn → yeb, CodeHd → yej, kla_obj → yev, excIn → yf8, Looks → yf9, tabIn → yfb, exmOne → yfc, tabObj → yfy, specialIn → yga, looks_findIn → ygp, takesIn → ygq, kdu_collect → ygx, callWith_K → ygz, methodObj → yh5, instObj → yhv, hideAll → yhw, cellsFrom_some → yhy, OpenLaw → yi5, lookIn → yib, kla_fn → yid, hideAll_get → yil, looks_mroIn → yir, of_hideAll → yis, kitx_list → yiy, kitx_dict → yiz, plainGet → yj0
open Int renaming toNat_natCast → ydm, emod_lt_of_pos → ye8, emod_nonneg → yeg, zero_add → yf2
open Option renaming bind_some → yfe, isSome_map → yfv, bind_eq_bind → yg5, isSome_iff_exists → yg6, isNone_iff_eq_none → yh9, map_some → yhu, map_eq_some_iff → yhz, isSome_some → yit
open Bool renaming false_ne_true → ycp, eq_false_iff → ydh, false_eq_true → ydo, and_eq_true → yeo, eq_iff_iff → yf3, not_true → ygj, not_eq_true' → yh6, and_false → yic, and_eq_true_iff → yie
open PySem.F renaming called_set → ydc, plainAttrs_list → ydy, slot_list_append → ye3, type_list_append → ye4, plain_max_loop → yea, plain_extend_loop → yer, excBase_ValueError → yf0, slot_list_getattribute → yfj, slot_zip_next → yfw, entry_max_loop → yge, slot_dict_get → ygi, slot_dict_setdefault → ygw, sub_list_frozenset → yh4, entry_extend_loop → yhb, args_list_init_2 → yhg, args_dict_get_3 → yhn, plainAttrs_dict → yho, typeCall_list_1 → yhq, entry_list_init → yhr, entry_type_call → yhs, args_zip_next_1 → yht, entry_dict_get → yi0, typeCall_set_1 → yi2, entry_set_init → yi3, entry_zip_next → yi4, plain_set_new → yi9, slot_set_iter → yia, sub_list_set → yii, slot_set_sub → yij, called_list → yio
set_option Elab.async false
set_option linter.all false
set_option maxRecDepth 100000
namespace L2
open PySem PySem.Spec PySem.Calls PyProof.Rows PySem.W
theorem left_at{p q:Program}{loose:List Str}{Xt:Shared→Bool}{β:Type}{seen:Shared→β}{due:World→β}{most m:Nat}{an:Option Value}
  (hp:opening p=plainProg p.main.scope.names) (hm:Nat.ble 600 most=true) (hf:∀s,fenceModules? p s=some s)
  (hz:∀P:Params,((boot_heap P).isNs mainGlobals,(boot_heap P).objs.size,(boot_heap P).nsMap mainGlobals "__annotations__")=(true,m,an))
  (hA:∀w os,(topRun treeTable p w m an most ⟨boot_heap w.params,Array.mk [],boot_drawn,boot_toks,os⟩ (topStub p)).map (fun z=>staticsOk (importedModules p.main.body) (boot_heap w.params) z.heap && namesBound p z.heap && gensDone z && laidKept (boot_heap w.params) z.heap)=some true)
  (hB:∀w os,(topRun treeTable p w m an most ⟨boot_heap w.params,Array.mk [],boot_drawn,boot_toks,os⟩ (topStub p)).map (openSeen q loose (importedModules p.main.body) Xt true)=some (openGood q loose))
  (hC:∀w os,(topRun treeTable p w m an most ⟨boot_heap w.params,Array.mk [],boot_drawn,boot_toks,os⟩ (topStub p)).map seen=some (due w)):LeftO p q loose Xt seen due most:=by
 intro w
 have hb:=boot_open hp hm hf w
 cases es:fencedOpening treeTable p w most with
 | none=>rw [es] at hb; cases hb
 | some s0=>
  rw [es] at hb
  have e:=Option.some.inj hb
  obtain⟨hh,gg,dd,tt,os⟩:=s0
  have e1:hh=boot_heap w.params:=congrArg (fun x=>x.1) e
  have e2:gg=Array.mk []:=congrArg (fun x=>x.2.1) e
  have e3:dd=boot_drawn:=congrArg (fun x=>x.2.2.1) e
  have e4:tt=boot_toks:=congrArg (fun x=>x.2.2.2) e
  subst e1 e2 e3 e4
  have z:=hz w.params
  have z1:=congrArg (fun x=>x.1) z
  have z2:=congrArg (fun x=>x.2.1) z
  have z3:=congrArg (fun x=>x.2.2) z
  dsimp only at z1 z2 z3
  have a:=hA w os
  have b:=hB w os
  have c:=hC w os
  cases er:topRun treeTable p w m an most ⟨boot_heap w.params,Array.mk [],boot_drawn,boot_toks,os⟩ (topStub p) with
  | none=>rw [er] at a; cases a
  | some s1=>
   rw [er] at a b c
   have a':=Option.some.inj a
   dsimp only at a'
   have t:topFrom treeTable p w most ⟨boot_heap w.params,Array.mk [],boot_drawn,boot_toks,os⟩=some s1:=by
    have g:((boot_heap w.params).isNs mainGlobals && (Array.mk ([]:List GenState)).size == 0)=true:=by rw [z1]; rfl
    simp only [topFrom,g,z2,z3,er,yfe]
    rw [a']
   simp only [openEnds,es,yfe,t,yhu]
   rw [Option.some.inj b,Option.some.inj c]
end L2
section
open PySem PySem.W PyProof.Rows PySem.Calls
set_option maxHeartbeats 0 in
theorem Toy.topA:∀(w:World) (os:OsState),(topRun treeTable PySem.Challenge.pw_lanemap_k13_no_place w 11 (some (.ref 6)) 4390 ⟨boot_heap w.params,Array.mk [],boot_drawn,boot_toks,os⟩ (topStub PySem.Challenge.pw_lanemap_k13_no_place)).map (fun s=>staticsOk (importedModules PySem.Challenge.pw_lanemap_k13_no_place.main.body) (boot_heap w.params) s.heap && namesBound PySem.Challenge.pw_lanemap_k13_no_place s.heap && gensDone s && laidKept (boot_heap w.params) s.heap)=some true:=by
 rw [PySem.W.Fast.te14082659384304107361,PySem.W.Fast.te14364793385576792824,PySem.W.Fast.te5923862056798008813]; exact fun w os=>by kernel_rfl
set_option maxHeartbeats 0 in
theorem Toy.topB:∀(w:World) (os:OsState),(topRun treeTable PySem.Challenge.pw_lanemap_k13_no_place w 11 (some (.ref 6)) 4390 ⟨boot_heap w.params,Array.mk [],boot_drawn,boot_toks,os⟩ (topStub PySem.Challenge.pw_lanemap_k13_no_place)).map (openSeen PySem.Challenge.pw_lanemap_k13_no_place [] (importedModules PySem.Challenge.pw_lanemap_k13_no_place.main.body) (fun s=>xlAt PySem.Challenge.pw_lanemap_k13_no_place [] s && recOk [] s) true)=some (openGood PySem.Challenge.pw_lanemap_k13_no_place []):=by
 rw [PySem.W.Fast.te14082659384304107361,PySem.W.Fast.te14364793385576792824,PySem.W.Fast.te5923862056798008813,PySem.W.Fast.te4187177175401517315]; exact fun w os=>by kernel_rfl
local macro_rules | `(tactic| o_law) => `(tactic| refine holds_law (by decide +kernel) fun said => ?_)
local macro_rules | `(tactic| o_head $H:term) => `(tactic| (refine holds_open (q := PySem.Challenge.pw_lanemap_k13_no_place) (loose := []) (N := 4390) (XP := XL PySem.Challenge.pw_lanemap_k13_no_place []) (Xt := fun s => xlAt PySem.Challenge.pw_lanemap_k13_no_place [] s && recOk [] s) (Yf := Hook.obs $H) (Ya := Hook.val $H) (YP := Hook.says $H) (L2.left_at (m := 11) (an := some (.ref 6)) (by kernel_rfl) (by decide) (fun s => by kernel_rfl) (fun P => by kernel_rfl) Toy.topA Toy.topB ?hC) (Hook.of $H) (Hook.keeps $H) (fun s e => xl_of s (yie.mp e).1) XL.keeps (by rfl) (by rfl) (by rfl) (fun s e => recFacts_of (yie.mp e).2) (by rfl) (by assumption) (by decide +kernel) ⟨rfl, rfl, rfl, rfl, rfl, by decide +kernel⟩ ?$(Lean.mkIdent `hw) ?$(Lean.mkIdent `hc); (case hC => rw [PySem.W.Fast.te14082659384304107361, PySem.W.Fast.te14364793385576792824]; exact fun w os => by kernel_rfl)))
set_option maxHeartbeats 0 in
open_top Toy.head for PySem.Challenge.rw_lanemap_k13_no_place
end
namespace L2
open PySem PySem.Spec PyProof.Rows
abbrev Key:=Sum Int Str
def ZU:Key→Value→Bool
 | .inl k,v=>Value.isInt k v
 | .inr x,v=>Value.isStrOf x v
def keyH(w:World):Key→Int
 | .inl k=>hashInt k
 | .inr x=>hashStr w x
theorem YZ:∀{k:Key} {v:Value},ZU k v=true→(∃i t,k=Sum.inl i∧v=Value.int i t)∨(∃x t,k=Sum.inr x∧v=Value.str x t)
 | .inl i,v,h=>by
  obtain⟨t,e⟩:=Value.isInt_shape (k:=i) (v:=v) h
  exact .inl ⟨i,t,rfl,e⟩
 | .inr x,v,h=>by
  obtain⟨t,e⟩:=Value.isStrOf_shape (x:=x) (v:=v) h
  exact .inr ⟨x,t,rfl,e⟩
theorem y4i(i:Int)(t:Tok):ZU (.inl i) (.int i t)=true:=by simp [ZU,Value.isInt]
theorem y3f(x:Str)(t:Tok):ZU (.inr x) (.str x t)=true:=by simp [ZU,Value.isStrOf]
theorem yb3(a b:Int):decide ((Sum.inl a:Key)=Sum.inl b)=(a == b):=by
 by_cases e:a=b
 ·subst e; simp
 ·have h:¬(Sum.inl a:Key)=Sum.inl b:=fun q=>e (Sum.inl.inj q)
  rw [decide_eq_false h]
  exact(beq_eq_false_iff_ne.mpr e).symm
theorem yb2(a b:Str):decide ((Sum.inr a:Key)=Sum.inr b)=decide (a=b):=by
 by_cases e:a=b
 ·subst e; simp
 ·have h:¬(Sum.inr a:Key)=Sum.inr b:=fun q=>e (Sum.inr.inj q)
  rw [decide_eq_false h,decide_eq_false e]
theorem ybr(a:Int)(b:Str):decide ((Sum.inl a:Key)=Sum.inr b)=false:=decide_eq_false (fun q=>nomatch q)
theorem ybq(a:Str)(b:Int):decide ((Sum.inr a:Key)=Sum.inl b)=false:=decide_eq_false (fun q=>nomatch q)
def yL(prog:Program)(w:World):PySem.KeyKind prog w Key where
 is:=ZU
 hash:=keyH w
 inj:=fun v a b ha hb=>by
  rcases YZ ha with⟨i,t,rfl,rfl⟩ | ⟨x,t,rfl,rfl⟩
  ·rcases YZ hb with⟨j,u,rfl,e⟩ | ⟨y,u,rfl,e⟩
   ·injection e with e1 _; rw [e1]
   ·exact nomatch e
  ·rcases YZ hb with⟨j,u,rfl,e⟩ | ⟨y,u,rfl,e⟩
   ·exact nomatch e
   ·injection e with e1 _; rw [e1]
 byValue:=fun k v h=>by
  rcases YZ h with⟨i,t,rfl,rfl⟩ | ⟨x,t,rfl,rfl⟩ <;> rfl
 pyHash:=fun hv h=>by
  rcases YZ hv with⟨i,t,rfl,rfl⟩ | ⟨x,t,rfl,rfl⟩
  ·exact wpAny_pyHash_int h
  ·exact wpAny_pyHash_str h
 eqBool:=fun hu hv h=>by
  rcases YZ hu with⟨i,t,rfl,rfl⟩ | ⟨x,t,rfl,rfl⟩
  ·rcases YZ hv with⟨j,u,rfl,rfl⟩ | ⟨y,u,rfl,rfl⟩
   ·rw [yb3] at h; exact wpAny_eqBool_int h
   ·rw [ybr] at h; exact SeqAt.EqAt.int_str i t y u _ _ _ _ h
  ·rcases YZ hv with⟨j,u,rfl,rfl⟩ | ⟨y,u,rfl,rfl⟩
   ·rw [ybq] at h; exact SeqAt.EqAt.str_int x t j u _ _ _ _ h
   ·rw [yb2] at h; exact wpAny_eqBool_str h
 «strs»:=fun k x t v h=>by
  rcases YZ h with⟨i,u,rfl,e⟩ | ⟨y,u,rfl,e⟩
  ·exact nomatch e
  ·injection e with e1 _
   subst e1
   cases v <;> rfl
theorem y0i(prog:Program)(w:World)(i:Int)(t:Tok):(yL prog w).is (.inl i) (.int i t)=true:=y4i i t
theorem y08(prog:Program)(w:World)(x:Str)(t:Tok):(yL prog w).is (.inr x) (.str x t)=true:=y3f x t
end L2
namespace L2
open PySem PySem.Spec PyProof.Rows
inductive V where
 | non | bl (b:Bool) | int (i:Int) | str (x:Str) | byt (b:Array UInt8) | flt (b:UInt64) | ref (a:Addr) | ty (n:String)
 deriving DecidableEq
def yH:V→Value→Prop
 | .non,u=>u=Value.none
 | .bl b,u=>u=Value.bool b
 | .int i,u=>∃t,u=Value.int i t
 | .str x,u=>∃t,u=Value.str x t
 | .byt b,u=>∃t,u=Value.bytes b t
 | .flt b,u=>∃t,u=Value.float b t
 | .ref a,u=>u=Value.ref a
 | .ty n,u=>u=Value.type n
abbrev yz:List V→List Value→Prop:=Paired yH
theorem yz.length{xs:List V}{us:List Value}(r:yz xs us):xs.length=us.length:=Paired.length r
theorem yz.get:∀{xs:List V} {us:List Value} {i:Nat} {x:V},yz xs us→xs[i]? =some x→∃u,us[i]? =some u∧yH x u
 | _,_,_,_, .nil,e=>by simp at e
 | _,_,0,_, .cons r _,e=>by simp at e; subst e; exact⟨_,rfl,r⟩
 | _,_,i + 1,x, .cons _ t,e=>by
  obtain⟨u,h1,h2⟩:=yz.get (i:=i) (x:=x) t (by simpa using e)
  exact⟨u,by simpa using h1,h2⟩
theorem yz.set{x:V}{u:Value}(r:yH x u):∀{xs:List V} {us:List Value} (i:Nat),yz xs us→yz (xs.set i x) (us.set i u)
 | _,_,_, .nil=> .nil
 | _,_,0, .cons _ t=> .cons r t
 | _,_,i + 1, .cons q t=> .cons q (yz.set r i t)
theorem yz.append:∀{xs ys:List V} {us ws:List Value},yz xs us→yz ys ws→yz (xs ++ ys) (us ++ ws)
 | _,_,_,_, .nil,s=>s
 | _,_,_,_, .cons r t,s=> .cons r (yz.append t s)
theorem yz.take:∀{xs:List V} {us:List Value} (n:Nat),yz xs us→yz (xs.take n) (us.take n)
 | _,_,0,_=> .nil
 | _,_,_ + 1, .nil=> .nil
 | _,_,n + 1, .cons r t=> .cons r (yz.take n t)
theorem yz.drop:∀{xs:List V} {us:List Value} (n:Nat),yz xs us→yz (xs.drop n) (us.drop n)
 | _,_,0,r=>r
 | _,_,_ + 1, .nil=> .nil
 | _,_,n + 1, .cons _ t=>yz.drop n t
def VM:Option V→Option Value→Prop
 | some v,some u=>yH v u
 | none,none=>True
 | _,_=>False
def KV{κ:Type}:List (κ × V)→List (κ × Value)→Prop:=Paired fun(p:κ × V) (q:κ × Value)=>p.1=q.1∧yH p.2 q.2
def kV:Key→V
 | .inl i=> .int i
 | .inr x=> .str x
inductive HO where
 | lst (xs:List V)
 | tup (xs:List V)
 | dK (kvs:List (Key × V)) | dT (kvs:List (List Key × V))
 | set (S:Int→Bool) (n:Nat)
 | ins (C dx:Addr) (fs:List (Str × V))
 | own (x:Addr)
 | xd (fs:List (Str × V))
 | met (f x:Addr)
 | rng (lo hi:Int)
 | frz (o:Obj) (u:HO)
 | tbl (ps:Array Value)
 | ext (φ:Heap→Prop)
abbrev Hp:=Addr→Option HO
def upd(H:Hp)(a:Addr)(o:HO):Hp:=fun b=>if b=a then some o else H b
theorem y6{H:Hp}{a:Addr}{o:HO}:upd H a o a=some o:=by unfold upd; rw [if_pos rfl]
theorem yi{H:Hp}{a b:Addr}{o:HO}(h:b ≠ a):upd H a o b=H b:=by unfold upd; rw [if_neg h]
theorem yaj{H:Hp}{a:Addr}{o u:HO}:upd (upd H a o) a u=upd H a u:=by
 funext b; unfold upd; split <;> rfl
theorem M5{H:Hp}{a b:Addr}{o u:HO}(h:H a=some o)(h':H b=some u)(d:o ≠ u):a ≠ b:=by
 intro e; subst e; rw [h] at h'; exact d (Option.some.inj h')
theorem ym{H:Hp}{a b:Addr}{o:HO}(h:H a=some o)(h':H b=none):a ≠ b:=by
 intro e; subst e; rw [h] at h'; cases h'
section
variable(P:Program)(w:World)
def yR(H:Hp)(h:Heap)(a:Addr):HO→Prop
 | .lst xs=>xs.length≤sizeLine∧∃(its:List Value) (n:Nat),yz xs its∧h.get? a=some {cls:= .type "list",data:= .seq its.toArray n}
 | .tup xs=>xs.length≤sizeLine∧∃its:List Value,yz xs its∧IsTup h a its.toArray
 | .dK kvs=>kvs.length≤sizeLine∧(a == sysModules)=false∧∃vs,KV kvs vs∧h.DictOf (yL P w) a vs
 | .dT kvs=>kvs.length≤sizeLine∧(a == sysModules)=false∧∃xs:List (List Key × Addr × Value),
   Paired (fun(p:List Key × V) (q:List Key × Addr × Value)=>p.1=q.1∧H q.2.1=some (.tup (p.1.map kV))∧yH p.2 q.2.2) kvs xs∧
   ∃o es ep,h.get? a=some o∧o.ExactDict∧o.data= .dict es ep∧es.toList=xs.map (entryOfKey (tupleKind (yL P w)))∧(xs.map (·.1)).Nodup
 | .set S n=>h.SetOf (intKind P w) a S n
 | .ins C dx fs=>H dx=some (.own a)∧fs.length≤1000∧dx ≠ a∧h.get? a=some (yhv C dx)∧
   ∃mA,h.Ns1 dx mA∧(∀f,VM (fs.lookup f) (mA f))∧PySem.Within mA (fs.map (·.1))
 | .own _=>∃o,h.get? a=some o
 | .xd fs=>∃mA,h.Ns1 a mA∧∀f,VM (fs.lookup f) (mA f)
 | .rng lo hi=>∃t u v,h.get? a=some {cls:= .type "range",data:= .fields #[.int lo t, .int hi u, .int 1 v]}
 | .frz o u=>h.get? a=some o∧yR H h a u
 | .tbl ps=>h.get? a=some {cls:= .none,data:= .fields ps}
 | .met f x=>h.get? a=some (yh5 (.ref f) (.ref x))
 | .ext φ=>φ h∧(∃o,h.get? a=some o)∧∀h1 h2:Heap,φ h1→(∀o,h1.get? a=some o→h2.get? a=some o)→φ h2
def HOk(H:Hp)(h:Heap):Prop:=∀a o,H a=some o→yR P w H h a o
end
section
variable{P:Program}{w:World}{H H':Hp}{h h':Heap}{a:Addr}{o:HO}
theorem yR.lt(x:yR P w H h a o):a < h.objs.size:=by
 cases o with
 | lst xs=>obtain⟨_,_,_,_,e⟩:=x; exact Heap.lt_size e
 | tup xs=>obtain⟨_,_,_,p⟩:=x; exact p.lt
 | dK kvs=>obtain⟨_,_,_,_,o,_,_,e,_⟩:=x; exact Heap.lt_size e
 | dT kvs=>obtain⟨_,_,_,_,o,_,_,e,_⟩:=x; exact Heap.lt_size e
 | set S n=>obtain⟨o,_,_,_,e,_⟩:=x; exact Heap.lt_size e
 | ins C dx fs=>obtain⟨_,_,_,e,_⟩:=x; exact Heap.lt_size e
 | own y=>obtain⟨_,e⟩:=x; exact Heap.lt_size e
 | xd fs=>obtain⟨_,⟨_,_,_,e,_⟩,_⟩:=x; exact Heap.lt_size e
 | rng lo hi=>obtain⟨_,_,_,e⟩:=x; exact Heap.lt_size e
 | frz ob u=>obtain⟨e,_⟩:=x; exact Heap.lt_size e
 | tbl ps=>exact Heap.lt_size (show h.get? a=some _ from x)
 | met f y=>exact Heap.lt_size (show h.get? a=some _ from x)
 | ext φ=>obtain⟨_,⟨_,e⟩,_⟩:=x; exact Heap.lt_size e
theorem Paired.mapP{α β:Type}{F G:α→β→Prop}:∀{l₁:List α} {l₂:List β},Paired F l₁ l₂→(∀a b,F a b→G a b)→Paired G l₁ l₂
 | _,_, .nil,_=> .nil
 | _,_, .cons r t,f=> .cons (f _ _ r) (Paired.mapP t f)
theorem yR.stay(x:yR P w H h a o)(k:∀b u,(b=a∨H b=some (.own a))→h.get? b=some u→h'.get? b=some u)
  (ho:∀b,H b=some (.own a)→H' b=some (.own a)) (ht:∀b xs,H b=some (.tup xs)→H' b=some (.tup xs)):yR P w H' h' a o:=by
 induction o with
 | lst xs=>obtain⟨z,its,n,r,e⟩:=x; exact⟨z,its,n,r,k _ _ (.inl rfl) e⟩
 | tup xs=>obtain⟨z,its,r,ob,e,c⟩:=x; exact⟨z,its,r,ob,k _ _ (.inl rfl) e,c⟩
 | dK kvs=>obtain⟨z,y,vs,r,ob,es,ep,e,c⟩:=x; exact⟨z,y,vs,r,ob,es,ep,k _ _ (.inl rfl) e,c⟩
 | dT kvs=>
  obtain⟨z,y,xs,r,ob,es,ep,e,c⟩:=x
  exact⟨z,y,xs,Paired.mapP r fun p q z=>⟨z.1,ht _ _ z.2.1,z.2.2⟩,ob,es,ep,k _ _ (.inl rfl) e,c⟩
 | set S n=>obtain⟨ob,es,ep,t,e,c⟩:=x; exact⟨ob,es,ep,t,k _ _ (.inl rfl) e,c⟩
 | ins C dx fs=>
  obtain⟨d,z,ne,e,mA,⟨od,es,ep,e2,c⟩,r⟩:=x
  exact⟨ho _ d,z,ne,k _ _ (.inl rfl) e,mA,⟨od,es,ep,k _ _ (.inr d) e2,c⟩,r⟩
 | own y=>obtain⟨ob,e⟩:=x; exact⟨ob,k _ _ (.inl rfl) e⟩
 | xd fs=>obtain⟨mA,⟨od,es,ep,e,c⟩,r⟩:=x; exact⟨mA,⟨od,es,ep,k _ _ (.inl rfl) e,c⟩,r⟩
 | rng lo hi=>obtain⟨t,u,v,e⟩:=x; exact⟨t,u,v,k _ _ (.inl rfl) e⟩
 | frz ob u ih=>obtain⟨e,q⟩:=x; exact⟨k _ _ (.inl rfl) e,ih q⟩
 | tbl ps=>
  have e:h.get? a=some {cls:= .none,data:= .fields ps}:=x
  show h'.get? a=some {cls:= .none,data:= .fields ps}
  exact k a _ (.inl rfl) e
 | met f y=>
  have e:h.get? a=some (yh5 (.ref f) (.ref y)):=x
  show h'.get? a=some (yh5 (.ref f) (.ref y))
  exact k a _ (.inl rfl) e
 | ext φ=>obtain⟨p,⟨o,e⟩,st⟩:=x; exact⟨st _ _ p fun o q=>k _ _ (.inl rfl) q,⟨o,k _ _ (.inl rfl) e⟩,st⟩
theorem HOk.lt(x:HOk P w H h)(e:H a=some o):a < h.objs.size:=(x a o e).lt
theorem HOk.fresh(x:HOk P w H h)(e:h.objs.size≤a):H a=none:=by
 cases q:H a with
 | none=>rfl
 | some u=>exact absurd (ycm (x.lt q) e) (yd3 _)
theorem HOk.kept(x:HOk P w H h)(k:∀b u,h.get? b=some u→h'.get? b=some u):HOk P w H h':=fun a o e=>
 (x a o e).stay (fun b u _ q=>k b u q) (fun _ q=>q) fun _ _ q=>q
theorem HOk.laid(x:HOk P w H h)(k:∀b u,h.get? b=some u→h'.get? b=some u)(hp:h.objs.size≤a)(new:yR P w (upd H a o) h' a o):HOk P w (upd H a o) h':=fun b u e=>by
 have hn:=x.fresh hp
 by_cases hb:b=a
 ·subst hb; rw [y6] at e; cases e; exact new
 ·rw [yi hb] at e
  exact(x b u e).stay (fun c v _ q=>k c v q) (fun c q=>by rw [yi (ym q hn)]; exact q) fun c xs q=>by rw [yi (ym q hn)]; exact q
end
def Rd(H:Hp)(a:Addr)(u:HO):Prop:=H a=some u∨∃o,H a=some (.frz o u)
theorem Rd.ok{P:Program}{w:World}{H:Hp}{h:Heap}{a:Addr}{u:HO}(r:Rd H a u)(x:HOk P w H h):yR P w H h a u:=by
 rcases r with r | ⟨o,r⟩
 ·exact x a u r
 ·obtain⟨_,q⟩:=x a _ r
  exact q
def Mut:Option HO→Prop
 | some (.lst _)=>True
 | some (.dK _)=>True
 | some (.dT _)=>True
 | some (.set _ _)=>True
 | some (.ins _ _ _)=>True
 | some (.ext _)=>True
 | _=>False
section
variable{P:Program}{w:World}{H:Hp}{h h':Heap}{x e:Addr}{o':HO}
theorem HOk.write(ok:HOk P w H h)(mu:Mut (H x))(he:e=x∨H e=some (.own x))(k:∀b u,b ≠ e→h.get? b=some u→h'.get? b=some u)(heo:∃u,h'.get? e=some u)
  (new:yR P w (upd H x o') h' x o'):HOk P w (upd H x o') h':=fun b u q=>by
 have nown:∀c y,H c=some (.own y)→c ≠ x:=fun c y r z=>by subst z; rw [r] at mu; exact mu
 have ntup:∀c xs,H c=some (.tup xs)→c ≠ x:=fun c xs r z=>by subst z; rw [r] at mu; exact mu
 by_cases hb:b=x
 ·subst hb; rw [y6] at q; cases q; exact new
 ·rw [yi hb] at q
  by_cases hbe:b=e
  ·have q':H b=some (.own x):=by
    rcases he with z | z
    ·exact absurd (hbe.trans z) hb
    ·rw [hbe]; exact z
   rw [q] at q'; cases q'
   obtain⟨v,hv⟩:=heo
   exact⟨v,by rw [hbe]; exact hv⟩
  ·refine(ok b u q).stay (fun c v hc r=>k c v ?_ r) (fun c r=>by rw [yi (nown c b r)]; exact r) fun c xs r=>by rw [yi (ntup c xs r)]; exact r
   rcases hc with rfl | hc
   ·exact hbe
   ·rintro rfl
    rcases he with z | z
    ·exact nown c b hc z
    ·rw [hc] at z; cases z; exact hb rfl
end
structure Un (fs ex:List Addr) (H H':Hp) (h h':Heap):Prop where
 keep:∀b o,h.get? b=some o→H b=none→b ∉ fs→b ∉ ex→h'.get? b=some o
 slot:∀b o,h.get? b=some o→H b=none→b ∈ fs→b ∉ ex→∃sl,h'.get? b=some {o with slots:=sl}
 free:∀b o,h.get? b=some o→H b=none→b ∉ ex→H' b=none
 there:∀b o,h.get? b=some o→b ∉ ex→∃o',h'.get? b=some o'
 tups:∀b xs,H b=some (.tup xs)→H' b=some (.tup xs)
 frzs:∀b o u,H b=some (.frz o u)→H' b=some (.frz o u)
 tbls:∀b ps,H b=some (.tbl ps)→∃more,H' b=some (.tbl (ps ++ more))
section
variable{fs fs' ex ex':List Addr}{H H1 H2:Hp}{h h1 h2 h':Heap}{a x e:Addr}{o:HO}
theorem Un.any(u:Un fs ex H H1 h h1){b:Addr}{ob:Obj}(q:h.get? b=some ob)(n:H b=none)(hx:b ∉ ex):∃sl,h1.get? b=some {ob with slots:=sl}:=by
 by_cases hb:b ∈ fs
 ·exact u.slot b ob q n hb hx
 ·exact⟨ob.slots,u.keep b ob q n hb hx⟩
theorem Un.kept(k:∀b u,h.get? b=some u→h'.get? b=some u):Un fs ex H H h h':=
 ⟨fun b ob q _ _ _=>k b ob q,fun b ob q _ _ _=>⟨ob.slots,k b ob q⟩,fun _ _ _ n _=>n,fun b ob q _=>⟨ob,k b ob q⟩,fun _ _ q=>q,fun _ _ _ q=>q,fun _ ps q=>⟨#[],by rw [q]; simp⟩⟩
theorem Un.refl:Un fs ex H H h h:=Un.kept fun _ _ q=>q
theorem Un.laid(k:∀b u,h.get? b=some u→h'.get? b=some u)(hp:h.objs.size≤a)(hn:H a=none):Un fs ex H (upd H a o) h h' where
 keep:=fun b u q _ _ _=>k b u q
 slot:=fun b u q _ _ _=>⟨u.slots,k b u q⟩
 free:=fun b u q n _=>by rw [yi (ycj (ycm (Heap.lt_size q) hp))]; exact n
 there:=fun b u q _=>⟨u,k b u q⟩
 tups:=fun b xs q=>by rw [yi (ym q hn)]; exact q
 frzs:=fun b u xs q=>by rw [yi (ym q hn)]; exact q
 tbls:=fun b ps q=>⟨#[],by rw [yi (ym q hn),q]; simp⟩
theorem Un.write(mu:Mut (H x))(he:e=x∨H e=some (.own x))(k:∀b u,b ≠ e→h.get? b=some u→h'.get? b=some u)(heo:∃u,h'.get? e=some u):Un fs ex H (upd H x o) h h':=by
 have hx:∀b,H b=none→b ≠ x:=fun b n z=>by subst z; rw [n] at mu; exact mu
 have hb:∀b,H b=none→b ≠ e:=fun b n z=>by
  subst z
  rcases he with r | r
  ·exact hx b n r
  ·rw [n] at r; cases r
 have hm:∀b u,H b=some u→¬Mut (some u)→b ≠ x:=fun b u q nm z=>by subst z; rw [q] at mu; exact nm mu
 refine⟨fun b u q n _ _=>k b u (hb b n) q,fun b u q n _ _=>⟨u.slots,k b u (hb b n) q⟩,fun b u q n _=>by rw [yi (hx b n)]; exact n,fun b u q _=> ?_,
  fun b xs q=>by rw [yi (hm b _ q fun z=>z)]; exact q,fun b u xs q=>by rw [yi (hm b _ q fun z=>z)]; exact q,fun b ps q=>⟨#[],by rw [yi (hm b _ q fun z=>z),q]; simp⟩⟩
 by_cases hbe:b=e
 ·subst hbe; exact heo
 ·exact⟨u,k b u hbe q⟩
end
def trk(h:Heap)(H:Hp):List Addr:=(ycd h.objs.size).filter fun a=>(H a).isSome
def LW(h:Heap)(H:Hp):Heap:=yhw h (trk h H)
theorem y54(h:Heap)(H:Hp):(LW h H).objs.size=h.objs.size:=PySem.W.hideAll_size _ _
theorem y5v{h:Heap}{H:Hp}{b:Addr}{o:Obj}(e:h.get? b=some o)(n:H b=none):(LW h H).get? b=some o:=
 yil _ e fun hm=>by
  have q:(H b).isSome=true:=(yd0.mp hm).2
  rw [n] at q; simp at q
theorem y8x{h:Heap}{H:Hp}{b:Addr}{o:Obj}(e:(LW h H).get? b=some o):h.get? b=some o∧H b=none:=by
 have e':h.get? b=some o:=yis (trk h H) e
 refine⟨e', ?_⟩
 cases q:H b with
 | none=>rfl
 | some x=>
  have hm:b ∈ trk h H:=yd0.mpr ⟨ycs.mpr (Heap.lt_size e'),by simp [q]⟩
  have z:(LW h H).get? b=none:=PySem.W.hideAll_none (trk h H) hm
  rw [z] at e; cases e
def y9w(g h:Heap)(L:Addr):List (Addr × Obj):=(ycd h.objs.size).filterMap fun a=>if a=L∨(g.get? a).isSome=true then none else(h.get? a).map fun o=>(a,o)
def yU(g h:Heap)(L d:Addr):List (Addr × Obj):=(y9w g h L).filter fun p=>decide (p.1 ≠ d)
end L2
namespace L2
open PySem PySem.Spec PyProof.Rows
structure Mod (K:yc3) (mg:Str→Option Value) (base:Heap):Prop where
 kin:K.In base
 glob:base.Ns mainGlobals mg
 blt:∃mb,base.Ns builtinsNs mb∧∀x:Str,x ≠ "__name__"→mb x=bootBuiltins x
 nolimit:base.NoLimit
structure Cx where
 prog:Program
 w:World
 K:yc3
 mg:Str→Option Value
 base:Heap
 A:Around
 N:List Str
 s₀:Shared
 H₀:Hp
 env:Env
 outer:List Env
 stack:List Env
 ex:List Addr
 fn:Str→Bool
 calm:Bool
 pn:List (Addr × Obj)
 xe:Value→Shared→Prop
def frs(l:List Env):List Addr:=l.filterMap (·.frame)
abbrev Cx.fs(X:Cx):List Addr:=frs X.outer
def Vis(sc:Scope)(x:Str):Prop:=sc.names.lookup x=some .local∨sc.names.lookup x=some .cell∨sc.names.lookup x=some .free
def Loc(sc:Scope)(x:Str):Prop:=sc.names.lookup x=some .local∨sc.names.lookup x=some .cell
def Look(env:Env)(h:Heap)(m:Str→Option Value)(x:Str)(u:Value):Prop:=
 (env.kindOf x=some .local∧m x=some u)∨((env.kindOf x=some .cell∨env.kindOf x=some .free)∧∃c,env.cells.lookup x=some c∧h.IsCell c (some u))
structure Cx.Ok (X:Cx):Prop where
 mod:Mod X.K X.mg X.base
 kind:X.env.scope.kind= .function
 glob:X.env.globals=mainGlobals
 blt:X.env.builtins=builtinsNs
 above:X.s₀.heap.objs.size≤X.env.locals
 inj:∀x y c,X.env.cells.lookup x=some c→X.env.cells.lookup y=some c→x=y
 has:∀x,(X.env.kindOf x=some .cell∨X.env.kindOf x=some .free)→∃c,X.env.cells.lookup x=some c
 cab:∀x c,X.fn x=true→X.env.cells.lookup x=some c→X.s₀.heap.objs.size≤c
 hd:X.calm=true→X.A.handled=none
 frames:X.A.frames=some X.stack
 stk:X.stack=X.outer∨(X.stack=X.env :: X.outer∧X.env.frame=some X.env.locals)
 exf:∀b ∈ X.ex,b ≠ X.env.locals∧∀x c,X.env.cells.lookup x=some c→c ≠ b
 bs:∀b o,X.base.get? b=some o→X.s₀.heap.get? b=some o∧X.H₀ b=none
 bsz:X.base.objs.size≤X.s₀.heap.objs.size
 noex:∀b o,X.base.get? b=some o→b ∉ X.ex
 exfs:∀b ∈ X.ex,b ∉ X.fs
 funs:X.s₀.heap.FunFrames X.base X.outer
 frf:∀b ∈ X.fs,X.H₀ b=none
structure Inv (X:Cx) (pins:List (Addr × Obj)) (σ:List (Option V)) (H:Hp) (s:Shared):Prop where
 ok:X.Ok
 os:s.os=X.s₀.os
 bare:AllBare s.gens
 base:Un X.fs X.ex X.H₀ H X.s₀.heap s.heap
 loc:∃m,s.heap.Ns X.env.locals m∧∀(i:Nat) (x:Str) (v:V),X.N[i]? =some x→σ[i]? =some (some v)→Vis X.env.scope x→∃u,yH v u∧Look X.env s.heap m x u
 cell:∀x c,X.env.cells.lookup x=some c→∃v,s.heap.IsCell c v
 free:H X.env.locals=none
 freeC:∀x c,X.env.cells.lookup x=some c→H c=none
 pin:∀p ∈ X.pn ++ pins,s.heap.get? p.1=some p.2∧H p.1=none∧p.1 ≠ X.env.locals∧p.1 ∉ X.fs∧∀v,p.2.data ≠ .cell v
 hok:HOk X.prog X.w H s.heap
 len:σ.length=X.N.length
section
variable{X:Cx}{pins:List (Addr × Obj)}{σ:List (Option V)}{H H':Hp}{s:Shared}{h':Heap}
theorem Cx.Ok.nofr(ok:X.Ok){b:Addr}{o:Obj}(e:X.base.get? b=some o):b ∉ X.fs:=fun hb=>by
 have:=(ok.funs.mem hb).1
 rw [e] at this; cases this
theorem Inv.bs(I:Inv X pins σ H s):∀b o,X.base.get? b=some o→s.heap.get? b=some o∧H b=none:=fun b o e=>
 ⟨I.base.keep b o (I.ok.bs b o e).1 (I.ok.bs b o e).2 (I.ok.nofr e) (I.ok.noex b o e),I.base.free b o (I.ok.bs b o e).1 (I.ok.bs b o e).2 (I.ok.noex b o e)⟩
theorem Inv.bk(I:Inv X pins σ H s):∀b o,X.base.get? b=some o→s.heap.get? b=some o:=fun b o e=>(I.bs b o e).1
theorem Inv.mod(I:Inv X pins σ H s):Mod X.K X.mg X.base:=I.ok.mod
theorem Inv.kIn(I:Inv X pins σ H s):X.K.In s.heap:=I.ok.mod.kin.keeps I.bk
theorem Inv.nolimit(I:Inv X pins σ H s):s.heap.NoLimit:=I.ok.mod.nolimit.keeps I.bk
theorem Inv.lt(I:Inv X pins σ H s):X.env.locals < s.heap.objs.size:=let ⟨_,hn,_⟩:=I.loc; hn.lt
theorem Inv.sz(I:Inv X pins σ H s):X.s₀.heap.objs.size≤s.heap.objs.size:=ydw I.ok.above (yed I.lt)
theorem Inv.nofs(I:Inv X pins σ H s){a:Addr}(h:s.heap.objs.size≤a):a ∉ X.fs:=fun hb=>by
 obtain⟨_,o,ho,_⟩:=I.ok.funs.mem hb
 exact absurd (ycm (Heap.lt_size ho) (ydw I.sz h)) (yd3 _)
theorem Inv.cne(I:Inv X pins σ H s):∀x c,X.env.cells.lookup x=some c→c ≠ X.env.locals:=fun x c e z=>by
 obtain⟨v,o,ho,hd⟩:=I.cell x c e
 obtain⟨m,⟨o',es,ep,ho',hd',_⟩,_⟩:=I.loc
 rw [z,ho'] at ho; cases ho; rw [hd'] at hd; cases hd
theorem Inv.funs(I:Inv X pins σ H s):s.heap.FunFrames X.base X.outer:=by
 have all:∀(l:List Env),(∀b ∈ frs l,b ∈ X.fs)→X.s₀.heap.FunFrames X.base l→s.heap.FunFrames X.base l:=by
  intro l
  induction l with
  | nil=>intro _ _; trivial
  | cons env r ih=>
   intro hs hl
   obtain⟨hk,⟨L,o,hf,hn,ho,hd⟩,hr⟩:=hl
   have hL:L ∈ X.fs:=hs L (by unfold frs; rw [ye2,hf]; exact yc8)
   obtain⟨sl,e⟩:=I.base.slot L o ho (I.ok.frf L hL) hL fun z=>I.ok.exfs L z hL
   exact⟨hk,⟨L,_,hf,hn,e,hd⟩,ih (fun b hb=>hs b (by unfold frs; rw [ye2,hf]; exact yc9 _ hb)) hr⟩
 exact all X.outer (fun _ hb=>hb) I.ok.funs
theorem Inv.stack(I:Inv X pins σ H s):s.heap.FunFrames X.base X.stack:=by
 rcases I.ok.stk with e | ⟨e,hf⟩
 ·rw [e]; exact I.funs
 ·rw [e]
  obtain⟨m,hn,_⟩:=I.loc
  refine .cons (by rw [I.ok.kind]; decide) hf hn ?_ I.funs
  exact Heap.get?_none_of_le (ydw I.ok.bsz I.ok.above)
theorem Inv.stkSub(I:Inv X pins σ H s):∀b ∈ frs X.stack,b ∈ X.env.locals :: X.fs:=fun b hb=>by
 rcases I.ok.stk with e | ⟨e,hf⟩
 ·rw [e] at hb; exact yc9 _ hb
 ·rw [e] at hb
  unfold frs at hb
  rw [ye2,hf] at hb
  exact hb
theorem Inv.stkFree(I:Inv X pins σ H s):∀b ∈ frs X.stack,H b=none:=fun b hb=>by
 rcases ycg.mp (I.stkSub b hb) with e | hb
 ·rw [e]; exact I.free
 ·obtain⟨_,o,ho,_⟩:=I.ok.funs.mem hb
  exact I.base.free b o ho (I.ok.frf b hb) fun z=>I.ok.exfs b z hb
theorem Inv.step{g':Array GenState}{t':Nat}{d':Drawn}{ch:List Addr}(I:Inv X pins σ H s)
  (hch:∀b ∈ ch,(b ∈ X.ex∨X.s₀.heap.objs.size≤b)∧b ≠ X.env.locals∧(∀x c,X.env.cells.lookup x=some c→c ≠ b)∧∀p ∈ X.pn ++ pins,p.1 ≠ b)
  (keep:∀b o,b ≠ X.env.locals→b ∉ X.fs→b ∉ ch→s.heap.get? b=some o→H b=none→h'.get? b=some o)
  (slot:∀b o,b ≠ X.env.locals→b ∈ X.fs→b ∉ ch→s.heap.get? b=some o→H b=none→∃sl,h'.get? b=some {o with slots:=sl}) (free:∀b o,b ∉ ch→s.heap.get? b=some o→H b=none→H' b=none)
  (there:∀b o,b ∉ ch→s.heap.get? b=some o→∃o',h'.get? b=some o')
  (tups:∀b xs,H b=some (.tup xs)→H' b=some (.tup xs)) (frzs:∀b o u,H b=some (.frz o u)→H' b=some (.frz o u)) (tbls:∀b ps,H b=some (.tbl ps)→∃more,H' b=some (.tbl (ps ++ more)))
  (ns:∀m,s.heap.Ns X.env.locals m→h'.Ns X.env.locals m) (hok:HOk X.prog X.w H' h') (hg:AllBare g') :
  Inv X pins σ H' {s with heap:=h',gens:=g',drawn:=d',toks:=t'}:=by
 have neL:∀b o,X.s₀.heap.get? b=some o→b ≠ X.env.locals:=fun b o e=>ycj (ycm (Heap.lt_size e) I.ok.above)
 have neC:∀b o,X.s₀.heap.get? b=some o→b ∉ X.ex→b ∉ ch:=fun b o e hx hb=>by
  rcases(hch b hb).1 with z | z
  ·exact hx z
  ·exact absurd (ycm (Heap.lt_size e) z) (yd3 _)
 have cellK:∀x c,X.env.cells.lookup x=some c→∀v,s.heap.IsCell c v→h'.IsCell c v:=fun x c e v ⟨o,ho,hd⟩=>by
  have nch:c ∉ ch:=fun z=>(hch c z).2.2.1 x c e rfl
  by_cases hc:c ∈ X.fs
  ·obtain⟨sl,q⟩:=slot c o (I.cne x c e) hc nch ho (I.freeC x c e)
   exact⟨_,q,hd⟩
  ·exact⟨o,keep c o (I.cne x c e) hc nch ho (I.freeC x c e),hd⟩
 refine⟨I.ok,I.os,hg,⟨fun b o e n hb hx=> ?_,fun b o e n hb hx=> ?_,fun b o e n hx=> ?_,fun b o e hx=> ?_,fun b xs e=>tups b xs (I.base.tups b xs e),fun b o xs e=>frzs b o xs (I.base.frzs b o xs e),fun b ps e=> ?_⟩, ?_,fun x c e=> ?_, ?_,fun x c e=> ?_,fun p hp=> ?_,hok,I.len⟩
 ·exact keep b o (neL b o e) hb (neC b o e hx) (I.base.keep b o e n hb hx) (I.base.free b o e n hx)
 ·obtain⟨sl,e1⟩:=I.base.slot b o e n hb hx
  obtain⟨sl',e2⟩:=slot b _ (neL b o e) hb (neC b o e hx) e1 (I.base.free b o e n hx)
  exact⟨sl',e2⟩
 ·obtain⟨o',e1⟩:=I.base.there b o e hx
  exact free b o' (neC b o e hx) e1 (I.base.free b o e n hx)
 ·obtain⟨o',e1⟩:=I.base.there b o e hx
  exact there b o' (neC b o e hx) e1
 ·obtain⟨m1,e1⟩:=I.base.tbls b ps e
  obtain⟨m2,e2⟩:=tbls b _ e1
  exact⟨m1 ++ m2,by rw [e2,Array.append_assoc]⟩
 ·obtain⟨m,hn,hl⟩:=I.loc
  refine⟨m,ns m hn,fun i x v e1 e2 e3=> ?_⟩
  obtain⟨u,r,l⟩:=hl i x v e1 e2 e3
  refine⟨u,r, ?_⟩
  rcases l with l | ⟨k,c,e,z⟩
  ·exact .inl l
  ·exact .inr ⟨k,c,e,cellK x c e _ z⟩
 ·obtain⟨v,z⟩:=I.cell x c e
  exact⟨v,cellK x c e v z⟩
 ·obtain⟨m,⟨o,_,_,ho,_⟩,_⟩:=I.loc
  exact free _ o (fun z=>(hch _ z).2.1 rfl) ho I.free
 ·obtain⟨v,o,ho,hd⟩:=I.cell x c e
  exact free c o (fun z=>(hch c z).2.2.1 x c e rfl) ho (I.freeC x c e)
 ·obtain⟨e,n,ne,nf,d⟩:=I.pin p hp
  have nch:p.1 ∉ ch:=fun z=>(hch p.1 z).2.2.2 p hp rfl
  exact⟨keep p.1 p.2 ne nf nch e n,free p.1 p.2 nch e n,ne,nf,d⟩
theorem Inv.un{t':Nat}(I:Inv X pins σ H s)(u:Un X.fs [] H H' s.heap h')(hok:HOk X.prog X.w H' h'):Inv X pins σ H' {s with heap:=h',toks:=t'}:=by
 obtain⟨m,⟨o,es,ep,ho,r⟩,_⟩:=id I.loc
 obtain⟨sl,hL⟩:=u.any ho I.free (by simp)
 exact I.step (g':=s.gens) (d':=s.drawn) (ch:= []) (fun _ z=>nomatch z) (fun b o _ hb _ e n=>u.keep b o e n hb (by simp)) (fun b o _ hb _ e n=>u.slot b o e n hb (by simp)) (fun b o _ e n=>u.free b o e n (by simp)) (fun b o _ e=>u.there b o e (by simp)) u.tups u.frzs u.tbls (fun m' hm=>by
  obtain⟨o',es',ep',ho',r'⟩:=hm
  rw [ho] at ho'; cases ho'
  exact⟨_,es',ep',hL,r'⟩) hok I.bare
theorem Inv.call{g':Array GenState}{t':Nat}{d':Drawn}{ch:List Addr}(I:Inv X pins σ H s)(u:Un (frs X.stack) ch H H' s.heap h')(hok:HOk X.prog X.w H' h')(hg:AllBare g')
  (hch:∀b ∈ ch,(b ∈ X.ex∨X.s₀.heap.objs.size≤b)∧b ≠ X.env.locals∧(∀x c,X.env.cells.lookup x=some c→c ≠ b)∧∀p ∈ X.pn ++ pins,p.1 ≠ b) :
  Inv X pins σ H' {s with heap:=h',gens:=g',drawn:=d',toks:=t'}:=by
 obtain⟨m,⟨o,es,ep,ho,r⟩,_⟩:=id I.loc
 obtain⟨sl,hL⟩:=u.any ho I.free fun z=>(hch _ z).2.1 rfl
 exact I.step (ch:=ch) hch (fun b o hL hb hc e n=>u.keep b o e n (fun z=>(ycg.mp (I.stkSub b z)).elim hL hb) hc) (fun b o _ _ hc e n=>u.any e n hc) (fun b o hc e n=>u.free b o e n hc) (fun b o hc e=>u.there b o e hc) u.tups u.frzs u.tbls (fun m' hm=>by
  obtain⟨o',es',ep',ho',r'⟩:=hm
  rw [ho] at ho'; cases ho'
  exact⟨_,es',ep',hL,r'⟩) hok hg
theorem Inv.turned{t':Nat}{it:Addr}(I:Inv X pins σ H s)(k:∀b o,b ≠ it→s.heap.get? b=some o→h'.get? b=some o)(hn:H it=none)(hL:it ≠ X.env.locals)
  (h1:it ∈ X.ex∨X.s₀.heap.objs.size≤it) (h2:∀x c,X.env.cells.lookup x=some c→c ≠ it) (h3:∀p ∈ X.pn ++ pins,p.1 ≠ it):Inv X pins σ H {s with heap:=h',toks:=t'}:=by
 have nit:∀b u,H b=some u→b ≠ it:=fun b u e z=>by rw [z,hn] at e; cases e
 refine I.step (g':=s.gens) (d':=s.drawn) (ch:= [it]) (fun b hb=> ?_) (fun b o _ _ hc e _=>k b o (fun z=>hc (by simp [z])) e) (fun b o _ _ hc e _=>⟨o.slots,k b o (fun z=>hc (by simp [z])) e⟩) (fun _ _ _ _ n=>n)
  (fun b o hc e=>⟨o,k b o (fun z=>hc (by simp [z])) e⟩) (fun _ _ e=>e) (fun _ _ _ e=>e) (fun b ps e=>⟨#[],by rw [e]; simp⟩) (fun m hm=> ?_) (fun b u e=> ?_) I.bare
 ·have e:b=it:=by simpa using hb
  subst e
  exact⟨h1,hL,h2,h3⟩
 ·obtain⟨o,es,ep,ho,r⟩:=hm
  exact⟨o,es,ep,k _ o (Ne.symm hL) ho,r⟩
 ·refine(I.hok b u e).stay (fun c v hc q=>k c v ?_ q) (fun _ q=>q) fun _ _ q=>q
  rcases hc with z | z
  ·rw [z]; exact nit b u e
  ·exact nit c _ z
theorem Inv.tok(I:Inv X pins σ H s)(t:Nat):Inv X pins σ H {s with toks:=t}:=I.un (h':=s.heap) (t':=t) Un.refl I.hok
theorem Inv.kept{t':Nat}(I:Inv X pins σ H s)(k:∀b u,s.heap.get? b=some u→h'.get? b=some u):Inv X pins σ H {s with heap:=h',toks:=t'}:=I.un (Un.kept k) (I.hok.kept k)
theorem Inv.laid{a:Addr}{o:HO}{t':Nat}(I:Inv X pins σ H s)(k:∀b u,s.heap.get? b=some u→h'.get? b=some u)(hp:s.heap.objs.size≤a)(new:yR X.prog X.w (upd H a o) h' a o) :
  Inv X pins σ (upd H a o) {s with heap:=h',toks:=t'}:=I.un (Un.laid k hp (I.hok.fresh hp)) (I.hok.laid k hp new)
theorem Inv.write{x e:Addr}{o:HO}{t':Nat}(I:Inv X pins σ H s)(mu:Mut (H x))(he:e=x∨H e=some (.own x))(k:∀b u,b ≠ e→s.heap.get? b=some u→h'.get? b=some u)(heo:∃u,h'.get? e=some u)
  (new:yR X.prog X.w (upd H x o) h' x o):Inv X pins σ (upd H x o) {s with heap:=h',toks:=t'}:=I.un (Un.write mu he k heo) (I.hok.write mu he k heo new)
theorem Inv.pins_of{pins':List (Addr × Obj)}(I:Inv X pins σ H s)(h:∀p ∈ pins',s.heap.get? p.1=some p.2∧H p.1=none∧p.1 ≠ X.env.locals∧p.1 ∉ X.fs∧∀v,p.2.data ≠ .cell v):Inv X pins' σ H s:=
 ⟨I.ok,I.os,I.bare,I.base,I.loc,I.cell,I.free,I.freeC,fun p hp=>(ycw.mp hp).elim (fun z=>I.pin p (yde _ z)) (h p),I.hok,I.len⟩
theorem Qs{N:List Str}(hN:N.Nodup){i j:Nat}{x:Str}(a:N[i]? =some x)(b:N[j]? =some x):i=j:=by
 obtain⟨h1,e1⟩:=yc5.mp a
 obtain⟨h2,e2⟩:=yc5.mp b
 exact(yfz hN).mp (e1.trans e2.symm)
theorem x8{M:Model}{A:Around}{E:Value→Shared→Prop}{i:Nat}{x:Str}{v:V}{u:Value}{Q:Unit→Shared→Prop}(I:Inv X pins σ H s)(hN:X.N.Nodup)(hi:X.N[i]? =some x)(hx:Loc X.env.scope x)(r:yH v u)
  (h:∀s',Inv X pins (σ.set i (some v)) H s'→(∃a,Heap.SameBut a s.heap s'.heap∧(a=X.env.locals∨X.env.cells.lookup x=some a))→Q () s') (hf:X.fn x=true∨X.env.scope.names.lookup x=some .local:=by first | exact .inl rfl | exact .inr rfl | assumption):wpAny M A (storeName X.env x u) Q E s:=by
 obtain⟨m,hn,hl⟩:=id I.loc
 have hcls:(X.env.scope.kind == .class || (X.env.scope.kind == .module && X.env.locals != X.env.globals))=false:=by rw [I.ok.kind]; rfl
 have hiσ:i < σ.length:=by rw [I.len]; exact(yc5.mp hi).1
 have cne:=I.cne
 have tracked:∀{a:Addr} {h':Heap},(∃o,s.heap.get? a=some o∧H a=none)→Heap.SameBut a s.heap h'→HOk X.prog X.w H h':=fun {a h'} ha hs b ob e=>by
  obtain⟨_,_,hfree⟩:=ha
  refine(I.hok b ob e).stay (fun c w' hc q=>(hs.2 c ?_).trans q) (fun _ q=>q) fun _ _ q=>q
  rintro rfl
  rcases hc with rfl | hc
  ·rw [hfree] at e; cases e
  ·rw [hfree] at hc; cases hc
 rcases hx with hk | hk
 ·refine wpAny_storeName_local hk hn (fun h' hn' hs=> ?_) hcls
  obtain⟨oL,_,_,hoL,_⟩:=id hn
  refine h _ ⟨I.ok,I.os,I.bare,⟨fun b o e n hb hx=> ?_,fun b o e n hb hx=> ?_,I.base.free,fun b o e hx=> ?_,I.base.tups,I.base.frzs,I.base.tbls⟩,⟨_,hn',fun j y v' e1 e2 e3=> ?_⟩,fun y c e=> ?_,I.free,I.freeC,fun p hp=> ?_,tracked ⟨oL,hoL,I.free⟩ hs,by simpa using I.len⟩ ⟨_,hs, .inl rfl⟩
  ·exact(hs.2 b (ycj (ycm (Heap.lt_size e) I.ok.above))).trans (I.base.keep b o e n hb hx)
  ·obtain⟨sl,e1⟩:=I.base.slot b o e n hb hx
   exact⟨sl,(hs.2 b (ycj (ycm (Heap.lt_size e) I.ok.above))).trans e1⟩
  ·obtain⟨o',e1⟩:=I.base.there b o e hx
   exact⟨o',(hs.2 b (ycj (ycm (Heap.lt_size e) I.ok.above))).trans e1⟩
  ·by_cases hj:j=i
   ·subst hj
    rw [hi] at e1; cases e1
    rw [yem hiσ] at e2
    cases e2
    exact⟨u,r, .inl ⟨hk,by simp⟩⟩
   ·rw [yet (Ne.symm hj)] at e2
    obtain⟨u',r',q⟩:=hl j y v' e1 e2 e3
    refine⟨u',r', ?_⟩
    rcases q with⟨k,e⟩ | ⟨k,c,e,z⟩
    ·refine .inl ⟨k, ?_⟩
     have:y ≠ x:=fun e=>hj (Qs hN e1 (e ▸ hi))
     simp [this,e]
    ·exact .inr ⟨k,c,e,z.sameBut hs (cne y c e)⟩
  ·obtain⟨w',z⟩:=I.cell y c e
   exact⟨w',z.sameBut hs (cne y c e)⟩
  ·obtain⟨e,n,ne,nf,d⟩:=I.pin p hp
   exact⟨(hs.2 p.1 ne).trans e,n,ne,nf,d⟩
 ·have hfn:X.fn x=true:=by
   rcases hf with z | z
   ·exact z
   ·rw [z] at hk; cases hk
  obtain⟨c,hc⟩:=I.ok.has x (.inl hk)
  obtain⟨w',z⟩:=I.cell x c hc
  refine wpAny_storeName_cell I.ok.kind hk hc z (fun h' hc' hs=> ?_)
  obtain⟨oc,hoc,hocd⟩:=id z
  refine h {s with heap:=h'} ⟨I.ok,I.os,I.bare,⟨fun b o e n hb hx=> ?_,fun b o e n hb hx=> ?_,I.base.free,fun b o e hx=> ?_,I.base.tups,I.base.frzs,I.base.tbls⟩,⟨m,hn.sameBut hs (Ne.symm (cne x c hc)),fun j y v' e1 e2 e3=> ?_⟩,fun y c' e=> ?_,I.free,I.freeC,fun p hp=> ?_,tracked ⟨oc,hoc,I.freeC x c hc⟩ hs,by simpa using I.len⟩ ⟨c,hs, .inr hc⟩
  ·exact(hs.2 b (ycj (ycm (Heap.lt_size e) (I.ok.cab x c hfn hc)))).trans (I.base.keep b o e n hb hx)
  ·obtain⟨sl,e1⟩:=I.base.slot b o e n hb hx
   exact⟨sl,(hs.2 b (ycj (ycm (Heap.lt_size e) (I.ok.cab x c hfn hc)))).trans e1⟩
  ·obtain⟨o',e1⟩:=I.base.there b o e hx
   exact⟨o',(hs.2 b (ycj (ycm (Heap.lt_size e) (I.ok.cab x c hfn hc)))).trans e1⟩
  ·by_cases hj:j=i
   ·subst hj
    rw [hi] at e1; cases e1
    rw [yem hiσ] at e2
    cases e2
    exact⟨u,r, .inr ⟨.inl hk,c,hc,hc'⟩⟩
   ·rw [yet (Ne.symm hj)] at e2
    obtain⟨u',r',q⟩:=hl j y v' e1 e2 e3
    refine⟨u',r', ?_⟩
    rcases q with q | ⟨k,c',e,z'⟩
    ·exact .inl q
    ·refine .inr ⟨k,c',e,z'.sameBut hs ?_⟩
     rintro rfl
     exact hj (Qs hN e1 (I.ok.inj _ _ _ e hc ▸ hi))
  ·by_cases hcc:c'=c
   ·subst hcc; exact⟨_,hc'⟩
   ·obtain⟨w2,z2⟩:=I.cell y c' e
    exact⟨w2,z2.sameBut hs hcc⟩
  ·obtain⟨e,n,ne,nf,d⟩:=I.pin p hp
   refine⟨(hs.2 p.1 ?_).trans e,n,ne,nf,d⟩
   intro q
   rw [q,hoc] at e
   have q':oc=p.2:=Option.some.inj e
   exact d w' (by rw [←q']; exact hocd)
theorem LQ{M:Model}{A:Around}{E:Value→Shared→Prop}{i:Nat}{x:Str}{v:V}{u:Value}{Q:Unit→Shared→Prop}(I:Inv X pins σ H s)(hN:X.N.Nodup)(hi:X.N[i]? =some x)(hx:Loc X.env.scope x)(r:yH v u)
  (h:∀s',Inv X pins (σ.set i (some v)) H s'→Q () s') (hf:X.fn x=true∨X.env.scope.names.lookup x=some .local:=by first | exact .inl rfl | exact .inr rfl | assumption):wpAny M A (storeName X.env x u) Q E s:=
 x8 I hN hi hx r (fun s' I' _=>h s' I') hf
theorem Inv.call'{s':Shared}{ch:List Addr}(I:Inv X pins σ H s)(ho:s'.os=s.os)(u:Un (frs X.stack) ch H H' s.heap s'.heap)(hok:HOk X.prog X.w H' s'.heap)(hg:AllBare s'.gens)
  (hch:∀b ∈ ch,(b ∈ X.ex∨X.s₀.heap.objs.size≤b)∧b ≠ X.env.locals∧(∀x c,X.env.cells.lookup x=some c→c ≠ b)∧∀p ∈ X.pn ++ pins,p.1 ≠ b):Inv X pins σ H' s':=by
 obtain⟨h',g',d',t',o'⟩:=s'
 have e:o'=s.os:=ho
 subst e
 exact I.call (g':=g') (t':=t') (d':=d') u hok hg hch
end
abbrev XK:=Value→Option Addr→Hp→Prop
abbrev St:=List (Option V)
abbrev VK:=V→Hp→Prop
abbrev TE:=St→Hp→VK→Prop
abbrev TT:=St→Hp→(Bool→Hp→Prop)→Prop
abbrev TA:=St→Hp→(List V→Hp→Prop)→Prop
structure Ends where
 nx:St→Hp→Prop
 rt:VK
 bk:St→Hp→Prop:=fun _ _=>False
 ct:St→Hp→Prop:=fun _ _=>False
abbrev TS:=Ends→St→Hp→Prop
def EP(X:Cx)(pins:List (Addr × Obj))(σ:St)(Q:VK)(u:Value)(s':Shared):Prop:=∃v H',Inv X pins σ H' s'∧yH v u∧Q v H'
def TP(X:Cx)(pins:List (Addr × Obj))(σ:St)(Q:Bool→Hp→Prop)(b:Bool)(s':Shared):Prop:=∃H',Inv X pins σ H' s'∧Q b H'
def AP(X:Cx)(pins:List (Addr × Obj))(σ:St)(Q:List V→Hp→Prop)(us:List Value)(s':Shared):Prop:=∃vs H',Inv X pins σ H' s'∧yz vs us∧Q vs H'
def SP(X:Cx)(pins:List (Addr × Obj))(D:Ends)(f:Flow)(s':Shared):Prop:=
 match f with
 | .next=>∃σ' H',Inv X pins σ' H' s'∧D.nx σ' H'
 | .brk=>∃σ' H',Inv X pins σ' H' s'∧D.bk σ' H'
 | .cont=>∃σ' H',Inv X pins σ' H' s'∧D.ct σ' H'
 | .ret u=>∃v σ' H',Inv X pins σ' H' s'∧yH v u∧D.rt v H'
def PE(X:Cx)(e:Expr)(t:TE):Prop:=
 ∀(pins:List (Addr × Obj)) (s:Shared) (σ:St) (H:Hp) (Q:VK),Inv X pins σ H s→t σ H Q→wpAny (model X.prog X.w) X.A (eval e X.env) (EP X pins σ Q) X.xe s
def PT(X:Cx)(e:Expr)(t:TT):Prop:=
 ∀(pins:List (Addr × Obj)) (s:Shared) (σ:St) (H:Hp) (Q:Bool→Hp→Prop),Inv X pins σ H s→t σ H Q→wpAny (model X.prog X.w) X.A (isTrue e X.env (eval e X.env)) (TP X pins σ Q) X.xe s
def PW(X:Cx)(e:Expr)(t:TT):Prop:=
 ∀(whole:Sem Value) (pins:List (Addr × Obj)) (s:Shared) (σ:St) (H:Hp) (Q:Bool→Hp→Prop),Inv X pins σ H s→t σ H Q→wpAny (model X.prog X.w) X.A (isTrue e X.env whole) (TP X pins σ Q) X.xe s
theorem PW.pt{X:Cx}{e:Expr}{t:TT}(h:PW X e t):PT X e t:=h _
def PA(X:Cx)(es:List Expr)(t:TA):Prop:=
 ∀(pos:Pos) (pins:List (Addr × Obj)) (s:Shared) (σ:St) (H:Hp) (Q:List V→Hp→Prop),Inv X pins σ H s→t σ H Q→wpAny (model X.prog X.w) X.A (spliced (backTo pos (starEach es X.env))) (AP X pins σ Q) X.xe s
def PS(X:Cx)(st:Stmt)(t:TS):Prop:=
 ∀(pins:List (Addr × Obj)) (s:Shared) (σ:St) (H:Hp) (D:Ends),Inv X pins σ H s→t D σ H→wpAny (model X.prog X.w) X.A (exec st X.env) (SP X pins D) X.xe s
def PSs(X:Cx)(st:List Stmt)(t:TS):Prop:=
 ∀(pins:List (Addr × Obj)) (s:Shared) (σ:St) (H:Hp) (D:Ends),Inv X pins σ H s→t D σ H→wpAny (model X.prog X.w) X.A (execs st X.env) (SP X pins D) X.xe s
theorem thn{α:Type}{t:Sem α}{Q Q':α→Shared→Prop}{M:Model}{A:Around}{E:Value→Shared→Prop}{s:Shared}(h:wpAny M A t Q E s)(hQ:∀a s,Q a s→Q' a s):wpAny M A t Q' E s:=wpAny_mono h hQ fun _ _ x=>x
end L2
namespace L2
open PySem PySem.Spec PyProof.Rows
section
variable{X:Cx}
theorem bin{a b:Expr}{ta tb:TE}(ha:PE X a ta)(hb:PE X b tb){pins:List (Addr × Obj)}{s:Shared}{σ:St}{H:Hp}{R:V→V→Hp→Prop}(I:Inv X pins σ H s)(h:ta σ H fun x H1=>tb σ H1 fun y H2=>R x y H2)
  {α:Type} {Q:α→Shared→Prop} {f:Value→Value→Sem α}
  (hf:∀v u s2 x y H2,Inv X pins σ H2 s2→yH x v→yH y u→R x y H2→wpAny (model X.prog X.w) X.A (f v u) Q X.xe s2) :
  wpAny (model X.prog X.w) X.A (eval a X.env) (fun v s₁=>wpAny (model X.prog X.w) X.A (eval b X.env) (fun u s₂=>wpAny (model X.prog X.w) X.A (f v u) Q X.xe s₂) X.xe s₁) X.xe s:=by
 refine thn (ha pins s σ H _ I h) fun v s1 ⟨x,H1,I1,r1,q1⟩=> ?_
 refine thn (hb pins s1 σ H1 _ I1 q1) fun u s2 ⟨y,H2,I2,r2,q2⟩=> ?_
 exact hf v u s2 x y H2 I2 r1 r2 q2
def Jc(i:Nat):TE:=fun σ H Q=>∃v,σ[i]? =some (some v)∧Q v H
def tC(v:V):TE:=fun _ H Q=>Q v H
theorem ybc{i:Nat}{x:Str}{pos:Pos}(hN:X.N[i]? =some x)(hv:Vis X.env.scope x)(hd:(x == ("__debug__" :Str))=false:=by decide)(hcd:(x == ("__classdict__" :Str))=false:=by decide):PE X (.Name x pos) (Jc i):=by
 intro pins s σ H Q I h
 obtain⟨v,e,h⟩:=h
 obtain⟨m,hn,hl⟩:=I.loc
 obtain⟨u,r,l⟩:=hl i x v hN e hv
 have fin:EP X pins σ Q u s:=⟨v,H,I,r,h⟩
 rcases l with⟨hk,hm⟩ | ⟨hk,c,hc,hcell⟩
 ·exact wpAny_Name (wpAny_loadName_local I.ok.kind hk hn hm fin) hd
 ·rcases hk with hk | hk
  ·exact wpAny_Name (wpAny_loadName_cell I.ok.kind hk hc hcell fin) hd
  ·exact wpAny_Name (wpAny_loadName_free I.ok.kind hk hc hcell fin hcd) hd
theorem ye{i j pos}:PE X (.Constant (.int i) j pos) (tC (.int i)):=fun _ _ _ H _ I h=>wpAny_Constant_int ⟨.int i,H,I.tok _,⟨_,rfl⟩,h⟩
theorem jy{b j pos}:PE X (.Constant (.bool b) j pos) (tC (.bl b)):=fun _ _ _ H _ I h=>Constant_bool ⟨.bl b,H,I,rfl,h⟩
theorem WS{j pos}:PE X (.Constant .none j pos) (tC .non):=fun _ _ _ H _ I h=>Constant_none ⟨.non,H,I,rfl,h⟩
theorem YQ{x j pos}:PE X (.Constant (.str x) j pos) (tC (.str x)):=fun _ _ _ H _ I h=>Calls.Constant_str ⟨.str x,H,I.tok _,⟨_,rfl⟩,h⟩
def Gl(X:Cx)(x:Str):Prop:=X.env.kindOf x=some .globalImplicit
theorem Mi{E:Value→Shared→Prop}{pins:List (Addr × Obj)}{s:Shared}{σ:St}{H:Hp}{x:Str}{u:Value}{pos:Pos}{Q:Value→Shared→Prop}(I:Inv X pins σ H s)(hg:Gl X x)(hm:X.mg x=some u)(h:Q u s)
  (hd:(x == ("__debug__" :Str))=false:=by decide):wpAny (model X.prog X.w) X.A (eval (.Name x pos) X.env) Q E s:=
 Calls.Name_function_global I.ok.kind hg (Calls.loadGlobal_global (by rw [I.ok.glob]; exact I.mod.glob.keeps I.bk) hm h) hd
theorem JP{E:Value→Shared→Prop}{pins:List (Addr × Obj)}{s:Shared}{σ:St}{H:Hp}{x:Str}{u:Value}{pos:Pos}{Q:Value→Shared→Prop}(I:Inv X pins σ H s)(hg:Gl X x)(hm:X.mg x=none)(hv:bootBuiltins x=some u)(h:Q u s)
  (hn:x ≠ "__name__":=by decide) (hd:(x == ("__debug__" :Str))=false:=by decide):wpAny (model X.prog X.w) X.A (eval (.Name x pos) X.env) Q E s:=by
 obtain⟨mb,h1,h2⟩:=I.mod.blt
 exact Calls.Name_function_global I.ok.kind hg (Calls.loadGlobal_builtin (by rw [I.ok.glob]; exact I.mod.glob.keeps I.bk) hm (by rw [I.ok.blt]; exact h1.keeps I.bk) ((h2 x hn).trans hv) h) hd
theorem qS{x:Str}{v:V}{u:Value}{pos:Pos}(hg:Gl X x)(hm:X.mg x=some u)(r:yH v u)(hd:(x == ("__debug__" :Str))=false:=by decide):PE X (.Name x pos) (tC v):=
 fun _ _ _ H _ I h=>Mi I hg hm ⟨v,H,I,r,h⟩ hd
theorem VJ{x:Str}{v:V}{u:Value}{pos:Pos}(hg:Gl X x)(hm:X.mg x=none)(hv:bootBuiltins x=some u)(r:yH v u)(hn:x ≠ "__name__":=by decide)(hd:(x == ("__debug__" :Str))=false:=by decide):PE X (.Name x pos) (tC v):=
 fun _ _ _ H _ I h=>JP I hg hm hv ⟨v,H,I,r,h⟩ hn hd
variable{a b:Expr}{ta tb:TE}{pos:Pos}
def PC(X:Cx)(op:CmpOp)(a b:Expr)(t:TE):Prop:=
 ∀(pins:List (Addr × Obj)) (s:Shared) (σ:St) (H:Hp) (Q:VK),Inv X pins σ H s→t σ H Q→
  wpAny (model X.prog X.w) X.A (eval a X.env) (fun v s₁=>wpAny (model X.prog X.w) X.A (eval b X.env) (fun u s₂=>wpAny (model X.prog X.w) X.A (compareOp op v u) (EP X pins σ Q) X.xe s₂) X.xe s₁) X.xe s
theorem Wn(b:Expr){op:CmpOp}(h:op ≠ .In)(h2:op ≠ .NotIn):behindInMarks op b=false:=by
 have e1:(op == CmpOp.In)=false:=by cases op <;> first | rfl | exact absurd rfl h
 have e2:(op == CmpOp.NotIn)=false:=by cases op <;> first | rfl | exact absurd rfl h2
 cases b <;> simp [behindInMarks,e1,e2]
def tIsN(ta:TE):TE:=fun σ H Q=>ta σ H fun x H1=>Q (.bl (decide (x= .non))) H1
def tNotN(ta:TE):TE:=fun σ H Q=>ta σ H fun x H1=>Q (.bl (!decide (x= .non))) H1
theorem yH.none_iff{x:V}{v:Value}(r:yH x v):(v == Value.none)=decide (x= .non):=by
 cases x with
 | non=>cases r; rfl
 | bl _=>cases r; rfl
 | int _=>obtain⟨t,rfl⟩:=r; rfl
 | str _=>obtain⟨t,rfl⟩:=r; rfl
 | byt _=>obtain⟨t,rfl⟩:=r; rfl
 | flt _=>obtain⟨t,rfl⟩:=r; rfl
 | ref _=>cases r; rfl
 | ty _=>cases r; rfl
theorem yb5{j pos'}(ha:PE X a ta):PC X .Is a (.Constant .none j pos') (tIsN ta):=by
 intro pins s σ H Q I h
 refine thn (ha pins s σ H _ I h) fun v s1 ⟨x,H1,I1,r1,q1⟩=> ?_
 exact Constant_none (is_none_gen ⟨.bl _,H1,I1,by rw [r1.none_iff]; rfl,q1⟩)
theorem y1a{j pos'}(ha:PE X a ta):PC X .IsNot a (.Constant .none j pos') (tNotN ta):=by
 intro pins s σ H Q I h
 refine thn (ha pins s σ H _ I h) fun v s1 ⟨x,H1,I1,r1,q1⟩=> ?_
 exact Constant_none (isnot_none_gen ⟨.bl _,H1,I1,by rw [r1.none_iff]; rfl,q1⟩)
def tB(t:TE):TT:=fun σ H Q=>t σ H fun x H1=>∃c,x= .bl c∧Q c H1
theorem ybj{op:CmpOp}{t:TE}(h:PC X op a b t)(h1:behindInMarks op b=false:=by first | exact Wn _ (by decide) (by decide) | rfl):PE X (.Compare a [op] [b] pos) t:=fun pins s σ H Q I hw=>wpAny_Compare1 (h pins s σ H Q I hw) h1
theorem jW{op:CmpOp}{t:TE}(h:PC X op a b t)(h1:behindInMarks op b=false:=by first | exact Wn _ (by decide) (by decide) | rfl):PT X (.Compare a [op] [b] pos) (tB t):=by
 intro pins s σ H Q I hw
 refine wpAny_isTrue_Compare1 (thn (h pins s σ H _ I hw) fun v s1 h1=>thn h1 fun u s2 h2=>thn h2 fun c s3 ⟨x,H1,I1,r1,q1⟩=> ?_) h1
 obtain⟨d,rfl,q⟩:=q1
 cases r1
 exact wpAny_truthy_bool ⟨H1,I1,q⟩
theorem Jv{e:Expr}{t:TE}(h:PE X e t)(he:∀whole,isTrue e X.env whole=(do let v ←whole; standAt e.pos; holding [v] (truthy v)):=by intro _; rfl):PT X e (tB t):=by
 intro pins s σ H Q I hw
 refine isTrue_plain (thn (h pins s σ H _ I hw) fun v s1 ⟨x,H1,I1,r1,q1⟩=> ?_) (he _)
 obtain⟨d,rfl,q⟩:=q1
 cases r1
 exact wpAny_truthy_bool ⟨H1,I1,q⟩
variable{tA tB':TT}{yU:List Expr}
def tAnd(t u:TT):TT:=fun σ H Q=>t σ H fun c H1=>if c=true then u σ H1 Q else Q false H1
def tOr(t u:TT):TT:=fun σ H Q=>t σ H fun c H1=>if c=true then Q true H1 else u σ H1 Q
def tNot(t:TT):TT:=fun σ H Q=>t σ H fun c H1=>Q (!c) H1
theorem Vs(ha:PT X a tA):PW X (.BoolOp .And [a] pos) tA:=by
 intro wh pins s σ H Q I h
 refine isTrue_and (thn (ha pins s σ H Q I h) fun c s1 e=> ?_)
 cases c with
 | true=>exact isTrue_and_nil e
 | false=>exact e
theorem Zn(ha:PT X a tA):PW X (.BoolOp .Or [a] pos) tA:=by
 intro wh pins s σ H Q I h
 refine isTrue_or (thn (ha pins s σ H Q I h) fun c s1 e=> ?_)
 cases c with
 | false=>exact isTrue_or_nil e
 | true=>exact e
theorem L4(ha:PT X a tA)(hb:PW X (.BoolOp .And (b :: yU) pos) tB'):PW X (.BoolOp .And (a :: b :: yU) pos) (tAnd tA tB'):=by
 intro wh pins s σ H Q I h
 refine isTrue_and (thn (ha pins s σ H _ I h) fun c s1 ⟨H1,I1,q1⟩=> ?_)
 cases c with
 | true=>exact hb wh pins s1 σ H1 Q I1 q1
 | false=>exact⟨H1,I1,q1⟩
theorem ZZ(ha:PT X a tA)(hb:PW X (.BoolOp .Or (b :: yU) pos) tB'):PW X (.BoolOp .Or (a :: b :: yU) pos) (tOr tA tB'):=by
 intro wh pins s σ H Q I h
 refine isTrue_or (thn (ha pins s σ H _ I h) fun c s1 ⟨H1,I1,q1⟩=> ?_)
 cases c with
 | true=>exact⟨H1,I1,q1⟩
 | false=>exact hb wh pins s1 σ H1 Q I1 q1
theorem Vw(ha:PT X a tA):PT X (.UnaryOp .Not a pos) (tNot tA):=by
 intro pins s σ H Q I h
 exact isTrue_not (ha pins s σ H (fun c H1=>Q (!c) H1) I h)
def tAndV(ta tb:TE):TE:=fun σ H Q=>ta σ H fun x H1=>∃c,x= .bl c∧if c=true then tb σ H1 Q else Q (.bl false) H1
def tOrV(ta tb:TE):TE:=fun σ H Q=>ta σ H fun x H1=>∃c,x= .bl c∧if c=true then Q (.bl true) H1 else tb σ H1 Q
def tNotV(ta:TE):TE:=fun σ H Q=>ta σ H fun x H1=>∃c,x= .bl c∧Q (.bl (!c)) H1
theorem zZ{op}{t:TE}(h:PE X a t):PE X (.BoolOp op [a] pos) t:=fun pins s σ H Q I hw=>BoolOp_one (h pins s σ H Q I hw)
theorem yas(ha:PE X a ta)(hb:PE X (.BoolOp .And (b :: yU) pos) tb):PE X (.BoolOp .And (a :: b :: yU) pos) (tAndV ta tb):=by
 intro pins s σ H Q I h
 refine BoolOp_and (thn (ha pins s σ H _ I h) fun v s1 ⟨x,H1,I1,r1,q1⟩=> ?_)
 obtain⟨c,rfl,q1⟩:=q1
 cases r1
 refine wpAny_truthy_bool ?_
 cases c with
 | true=>exact hb pins s1 σ H1 Q I1 q1
 | false=>exact⟨.bl false,H1,I1,rfl,q1⟩
theorem QF(ha:PE X a ta)(hb:PE X (.BoolOp .Or (b :: yU) pos) tb):PE X (.BoolOp .Or (a :: b :: yU) pos) (tOrV ta tb):=by
 intro pins s σ H Q I h
 refine BoolOp_or (thn (ha pins s σ H _ I h) fun v s1 ⟨x,H1,I1,r1,q1⟩=> ?_)
 obtain⟨c,rfl,q1⟩:=q1
 cases r1
 refine wpAny_truthy_bool ?_
 cases c with
 | false=>exact hb pins s1 σ H1 Q I1 q1
 | true=>exact⟨.bl true,H1,I1,rfl,q1⟩
theorem ybe(ha:PE X a ta):PE X (.UnaryOp .Not a pos) (tNotV ta):=by
 intro pins s σ H Q I h
 refine UnaryOp_ (thn (ha pins s σ H _ I h) fun v s1 ⟨x,H1,I1,r1,q1⟩=> ?_)
 obtain⟨c,rfl,q1⟩:=q1
 cases r1
 exact not_of (wpAny_truthy_bool ⟨.bl (!c),H1,I1,rfl,q1⟩)
def tIf(t:TT)(ta tb:TE):TE:=fun σ H Q=>t σ H fun c H1=>if c=true then ta σ H1 Q else tb σ H1 Q
theorem zE{c:Expr}(hc:PT X c tA)(ha:PE X a ta)(hb:PE X b tb):PE X (.IfExp c a b pos) (tIf tA ta tb):=by
 intro pins s σ H Q I h
 refine wpAny_IfExp (thn (hc pins s σ H _ I h) fun d s1 ⟨H1,I1,q1⟩=> ?_)
 cases d with
 | true=>exact ha pins s1 σ H1 Q I1 q1
 | false=>exact hb pins s1 σ H1 Q I1 q1
end
end L2
namespace L2
open PySem PySem.Spec PyProof.Rows
def SqL(K:yc3)(H:Hp)(a:Addr)(xs:List V):Prop:=
 Rd H a (.lst xs)∨
  ∃(o:Obj) (its:Array Value) (n:Nat),K.lookup a=some o∧o.cls= .type "list"∧o.dict=none∧o.data= .seq its n∧its.size≤sizeLine∧yz xs its.toList
def SqT(K:yc3)(H:Hp)(a:Addr)(xs:List V):Prop:=
 Rd H a (.tup xs)∨
  ∃(o:Obj) (its:Array Value) (n:Nat),K.lookup a=some o∧o.cls= .type "tuple"∧o.data= .seq its n∧its.size≤sizeLine∧yz xs its.toList
def absV:Value→Option V
 | .none=>some .non
 | .bool b=>some (.bl b)
 | .int i _=>some (.int i)
 | .str x _=>some (.str x)
 | .bytes b _=>some (.byt b)
 | .float b _=>some (.flt b)
 | .ref a=>some (.ref a)
 | .type n=>some (.ty n)
 | _=>none
theorem yH.abs{x:V}{u:Value}(r:yH x u):absV u=some x:=by
 cases x with
 | non=>cases r; rfl
 | bl _=>cases r; rfl
 | int _=>obtain⟨t,rfl⟩:=r; rfl
 | str _=>obtain⟨t,rfl⟩:=r; rfl
 | byt _=>obtain⟨t,rfl⟩:=r; rfl
 | flt _=>obtain⟨t,rfl⟩:=r; rfl
 | ref _=>cases r; rfl
 | ty _=>cases r; rfl
theorem yH.inj{x y:V}{u:Value}(r:yH x u)(q:yH y u):x=y:=Option.some.inj (r.abs.symm.trans q.abs)
theorem yz.inj:∀{xs ys:List V} {us:List Value},yz xs us→yz ys us→xs=ys
 | _,_,_, .nil, .nil=>rfl
 | _,_,_, .cons r t, .cons r' t'=>by rw [r.inj r',yz.inj t t']
section
variable{X:Cx}{pins:List (Addr × Obj)}{σ:St}{H:Hp}{s:Shared}{a:Addr}{xs ys:List V}
theorem SqL.of{K:yc3}(h:H a=some (.lst xs)):SqL K H a xs:= .inl (.inl h)
theorem SqT.of{K:yc3}(h:H a=some (.tup xs)):SqT K H a xs:= .inl (.inl h)
theorem Inv.list(I:Inv X pins σ H s)(h:SqL X.K H a xs):∃its:List Value,yz xs its∧PlainL s.heap a its.toArray∧xs.length≤sizeLine:=by
 rcases h with h | ⟨o,its,n,hk,hc,hd,hs,hz,r⟩
 ·obtain⟨z,its,n,r,e⟩:=h.ok I.hok
  exact⟨its,r,⟨_,n,e,rfl,rfl,rfl⟩,z⟩
 ·refine⟨its.toList,r,⟨o,n,I.kIn a o hk,hc,hd,by simpa using hs⟩, ?_⟩
  have e:=r.length
  simp only [ycn] at e
  omega
theorem Inv.tuple(I:Inv X pins σ H s)(h:SqT X.K H a xs):∃its:List Value,yz xs its∧IsTup s.heap a its.toArray∧xs.length≤sizeLine:=by
 rcases h with h | ⟨o,its,n,hk,hc,hs,hz,r⟩
 ·obtain⟨z,its,r,p⟩:=h.ok I.hok
  exact⟨its,r,p,z⟩
 ·refine⟨its.toList,r,⟨o,I.kIn a o hk,hc,n,by simpa using hs⟩, ?_⟩
  have e:=r.length
  simp only [ycn] at e
  omega
theorem Inv.list_inj(I:Inv X pins σ H s)(h:SqL X.K H a xs)(h':SqL X.K H a ys):xs=ys:=by
 obtain⟨its,r,⟨o,n,e,_,_,d⟩,_⟩:=I.list h
 obtain⟨its',r',⟨o',n',e',_,_,d'⟩,_⟩:=I.list h'
 rw [e] at e'; cases e'
 rw [d] at d'
 injection d' with d1 _
 have:its=its':=by simpa using congrArg Array.toList d1
 subst this
 exact r.inj r'
theorem Inv.tuple_inj(I:Inv X pins σ H s)(h:SqT X.K H a xs)(h':SqT X.K H a ys):xs=ys:=by
 obtain⟨its,r,⟨o,e,_,n,d⟩,_⟩:=I.tuple h
 obtain⟨its',r',⟨o',e',_,n',d'⟩,_⟩:=I.tuple h'
 rw [e] at e'; cases e'
 rw [d] at d'
 injection d' with d1 _
 have:its=its':=by simpa using congrArg Array.toList d1
 subst this
 exact r.inj r'
end
abbrev Cx.wish(X:Cx)(E:Value→Shared→Prop):Cx:={X with xe:=E}
abbrev Cx.nox(X:Cx):Cx:=X.wish fun _ _=>False
theorem Cx.Ok.wish{X:Cx}(ok:X.Ok)(E:Value→Shared→Prop):(X.wish E).Ok:=
 ⟨ok.mod,ok.kind,ok.glob,ok.blt,ok.above,ok.inj,ok.has,ok.cab,ok.hd,ok.frames,ok.stk,ok.exf,ok.bs,ok.bsz,ok.noex,ok.exfs,ok.funs,ok.frf⟩
theorem Cx.Ok.unwish{X:Cx}{E:Value→Shared→Prop}(ok:(X.wish E).Ok):X.Ok:=
 ⟨ok.mod,ok.kind,ok.glob,ok.blt,ok.above,ok.inj,ok.has,ok.cab,ok.hd,ok.frames,ok.stk,ok.exf,ok.bs,ok.bsz,ok.noex,ok.exfs,ok.funs,ok.frf⟩
section
variable{X:Cx}{pins:List (Addr × Obj)}{σ:St}{H:Hp}{s:Shared}{E:Value→Shared→Prop}
theorem Inv.wish(I:Inv X pins σ H s)(E:Value→Shared→Prop):Inv (X.wish E) pins σ H s:=⟨I.ok.wish E,I.os,I.bare,I.base,I.loc,I.cell,I.free,I.freeC,I.pin,I.hok,I.len⟩
theorem Inv.unwish(I:Inv (X.wish E) pins σ H s):Inv X pins σ H s:=⟨I.ok.unwish,I.os,I.bare,I.base,I.loc,I.cell,I.free,I.freeC,I.pin,I.hok,I.len⟩
theorem SP.unwish{D:Ends}{f:Flow}{s':Shared}(h:SP (X.wish E) pins D f s'):SP X pins D f s':=by
 cases f with
 | next=>obtain⟨σ',H',I,q⟩:=h; exact⟨σ',H',I.unwish,q⟩
 | brk=>obtain⟨σ',H',I,q⟩:=h; exact⟨σ',H',I.unwish,q⟩
 | cont=>obtain⟨σ',H',I,q⟩:=h; exact⟨σ',H',I.unwish,q⟩
 | ret u=>obtain⟨v,σ',H',I,r,q⟩:=h; exact⟨v,σ',H',I.unwish,r,q⟩
theorem PSs.nox{st:List Stmt}{t:TS}(h:PSs X.nox st t):PSs X st t:=fun pins s σ H D I hw=>
 wpAny_mono (h pins s σ H D (I.wish _) hw) (fun _ _ q=>q.unwish) fun _ _ z=>False.elim z
end
section
variable{X:Cx}{st:Stmt}{yU:List Stmt}{t u:TS}{e:Expr}{te:TE}{pos:Pos}
def y2n:TS:=fun D σ H=>D.nx σ H
def yI(t u:TS):TS:=fun D σ H=>t {D with nx:=u D} σ H
theorem yQ:PSs X [] y2n:=fun _ _ σ H _ I h=>wpAny_execs_nil ⟨σ,H,I,h⟩
theorem y7(h1:PS X st t)(h2:PSs X yU u):PSs X (st :: yU) (yI t u):=by
 intro pins s σ H D I h
 refine wpAny_execs_cons (thn (h1 pins s σ H {D with nx:=u D} I h) fun f s1 q=> ?_)
 cases f with
 | next=>
  obtain⟨σ',H',I',q⟩:=q
  exact h2 pins s1 σ' H' D I' q
 | ret v=>exact q
 | brk=>exact q
 | cont=>exact q
theorem yc(h1:PS X st t):PSs X [st] t:=by
 intro pins s σ H D I h
 refine wpAny_execs_cons (thn (h1 pins s σ H D I h) fun f s1 q=> ?_)
 cases f with
 | next=>exact wpAny_execs_nil q
 | ret v=>exact q
 | brk=>exact q
 | cont=>exact q
theorem Inv.quiet{pins:List (Addr × Obj)}{σ:St}{H:Hp}{s:Shared}(I:Inv X pins σ H s):interactive X.env=false:=by simp [interactive,I.ok.kind]
def tDrop(te:TE):TS:=fun D σ H=>te σ H fun _ H1=>D.nx σ H1
theorem yl(he:PE X e te)(hs:swapsWith e none pos.line X.env=pure false:=by rfl):PS X (.Expr e pos) (tDrop te):=by
 intro pins s σ H D I h
 exact wpAny_Expr_any (thn (he pins s σ H _ I h) fun v s1 ⟨x,H1,I1,r1,q1⟩=>⟨σ,H1,I1,q1⟩) I.quiet hs
def tRet(te:TE):TS:=fun D σ H=>te σ H D.rt
theorem yy(he:PE X e te):PS X (.Return (some e) pos) (tRet te):=by
 intro pins s σ H D I h
 exact wpAny_Return_some (thn (he pins s σ H _ I h) fun v s1 ⟨x,H1,I1,r1,q1⟩=>⟨x,σ,H1,I1,r1,q1⟩)
def tIfS(c:TT)(t u:TS):TS:=fun D σ H=>c σ H fun b H1=>if b=true then t D σ H1 else u D σ H1
theorem yP{c:Expr}{a b:List Stmt}{tc:TT}(hc:PT X c tc)(ha:PSs X a t)(hb:PSs X b u):PS X (.If c a b pos) (tIfS tc t u):=by
 intro pins s σ H D I h
 refine wpAny_If (thn (hc pins s σ H _ I h) fun d s1 ⟨H1,I1,q1⟩=> ?_)
 cases d with
 | true=>exact ha pins s1 σ H1 D I1 q1
 | false=>exact hb pins s1 σ H1 D I1 q1
def y50:TS:=fun _ _ _=>False
theorem y60:PS X st y50:=fun _ _ _ _ _ _ h=>h.elim
theorem Yb{sts:List Stmt}:PSs X sts y50:=fun _ _ _ _ _ _ h=>h.elim
end
abbrev TG:=V→St→Hp→(St→Hp→Prop)→Prop
abbrev TGs:=List V→St→Hp→(St→Hp→Prop)→Prop
def PG(X:Cx)(target:Expr)(t:TG):Prop:=
 ∀(pins:List (Addr × Obj)) (s:Shared) (σ:St) (H:Hp) (v:V) (u:Value) (Q:St→Hp→Prop),Inv X pins σ H s→yH v u→t v σ H Q→
  wpAny (model X.prog X.w) X.A (assign target X.env u) (fun _ s'=>∃σ' H',Inv X pins σ' H' s'∧Q σ' H') X.xe s
def PGs(X:Cx)(ts:List Expr)(t:TGs):Prop:=
 ∀(pins:List (Addr × Obj)) (s:Shared) (σ:St) (H:Hp) (vs:List V) (us:List Value) (Q:St→Hp→Prop),Inv X pins σ H s→yz vs us→t vs σ H Q→
  wpAny (model X.prog X.w) X.A (assignInOrder ((assignEach ts X.env).map (·.2)) us) (fun _ s'=>∃σ' H',Inv X pins σ' H' s'∧Q σ' H') X.xe s
abbrev TSet:=V→V→V→Hp→(Hp→Prop)→Prop
def PSet(X:Cx)(t:TSet):Prop:=
 ∀(pins:List (Addr × Obj)) (s:Shared) (σ:St) (H:Hp) (o i v:V) (ov iv u:Value) (Q:Hp→Prop),Inv X pins σ H s→yH o ov→yH i iv→yH v u→t o i v H Q→
  wpAny (model X.prog X.w) X.A (setItem ov iv u) (fun _ s'=>∃H',Inv X pins σ H' s'∧Q H') X.xe s
abbrev TIp:=V→V→Hp→VK→Prop
def PIp(X:Cx)(op:Operator)(t:TIp):Prop:=
 ∀(pins:List (Addr × Obj)) (s:Shared) (σ:St) (H:Hp) (x y:V) (v u:Value) (Q:VK),Inv X pins σ H s→yH x v→yH y u→t x y H Q→
  wpAny (model X.prog X.w) X.A (inplaceOp op v u) (EP X pins σ Q) X.xe s
section
variable{X:Cx}{pos:Pos}
def QP(i:Nat):TG:=fun v σ H Q=>Q (σ.set i (some v)) H
theorem YR{i:Nat}{x:Str}(hN:X.N.Nodup)(hi:X.N[i]? =some x)(hx:Loc X.env.scope x)(hf:X.fn x=true∨X.env.scope.names.lookup x=some .local:=by first | exact .inl rfl | exact .inr rfl | assumption):PG X (.Name x pos) (QP i):=by
 intro pins s σ H v u Q I r h
 exact wpAny_assign_Name (LQ I hN hi hx r (fun s' I'=>⟨_,H,I',h⟩) hf)
def gNil:TGs:=fun vs σ H Q=>vs= []∧Q σ H
def gCons(t:TG)(u:TGs):TGs:=fun vs σ H Q=>∃v r,vs=v :: r∧t v σ H fun σ' H'=>u r σ' H' Q
theorem y13:PGs X [] gNil:=by
 intro pins s σ H vs us Q I r h
 obtain⟨e,h⟩:=h
 subst e
 cases r
 exact assignInOrder_nil ⟨σ,H,I,h⟩
theorem MA{e:Expr}{es:List Expr}{t:TG}{u:TGs}(h1:PG X e t)(h2:PGs X es u)
  (hs:(assignEach (e :: es) X.env).map (·.2)=assign e X.env :: (assignEach es X.env).map (·.2):=by rfl):PGs X (e :: es) (gCons t u):=by
 intro pins s σ H vs us Q I r h
 obtain⟨v,vr,e1,h⟩:=h
 subst e1
 cases r with
 | cons r rr=>
  rw [hs]
  refine assignInOrder_cons (thn (h1 pins s σ H _ _ _ I r h) fun _ s1 ⟨σ1,H1,I1,q1⟩=> ?_)
  exact h2 pins s1 σ1 H1 _ _ Q I1 rr q1
def gTup(K:yc3)(n:Nat)(t:TGs):TG:=fun v σ H Q=>∃a xs,v= .ref a∧SqT K H a xs∧xs.length=n∧t xs σ H Q
theorem y3v{es:List Expr}{k:Nat}{t:TGs}{n:Nat}(hc:X.calm=true)(h:PGs X es t)
  (hn:(assignEach es X.env).length=n:=by rfl) (hst:(assignEach es X.env).findIdx? (·.1)=none:=by rfl):PG X (.Tuple es k pos) (gTup X.K n t):=by
 intro pins s σ H v u Q I r hw
 obtain⟨a,xs,e1,hq,hl,hw⟩:=hw
 subst e1
 cases r
 obtain⟨its,rv,ht,hz⟩:=I.tuple hq
 refine assign_Tuple_tuple (I.ok.hd hc) ht (by simp [hn,←hl,rv.length]) hst fun h' hx=> ?_
 have I1:Inv X pins σ H {s with heap:=h'}:=I.kept (t':=s.toks) fun b o e=>hx b o (ycj (Heap.lt_size e)) e
 exact h pins _ σ H xs _ Q I1 (by simpa using rv) hw
def gSub(to ti:TE)(t:TSet):TG:=fun v σ H Q=>to σ H fun o H1=>ti σ H1 fun i H2=>t o i v H2 fun H3=>Q σ H3
theorem Wl{o i:Expr}{to ti:TE}{t:TSet}(ho:PE X o to)(hi:PE X i ti)(hs:PSet X t)
  (ha:∀v,assign (.Subscript o i pos) X.env v=(do
   let ov ←holding [v] (eval o X.env)
   let iv ←holding [v,ov] (eval i X.env)
   standAt pos
   holding [v,ov,iv] (setItem ov iv v)
   release [v,ov,iv] []):=by intro _; rfl):PG X (.Subscript o i pos) (gSub to ti t):=by
 intro pins s σ H v u Q I r h
 rw [ha]
 refine wpAny_bind (wpAny_holding (thn (ho pins s σ H _ I h) fun ov s1 ⟨x,H1,I1,r1,q1⟩=> ?_))
 refine wpAny_bind (wpAny_holding (thn (hi pins s1 σ H1 _ I1 q1) fun iv s2 ⟨y,H2,I2,r2,q2⟩=> ?_))
 refine wpAny_bind (wpAny_standAt (wpAny_bind (wpAny_holding (thn (hs pins s2 σ H2 x y v ov iv u _ I2 r1 r2 r q2) fun _ s3 ⟨H3,I3,q3⟩=> ?_))))
 exact wpAny_release ⟨σ,H3,I3,q3⟩
def tAsg(te:TE)(g:TG):TS:=fun D σ H=>te σ H fun x H1=>g x σ H1 D.nx
theorem WP{tg e:Expr}{te:TE}{g:TG}(he:PE X e te)(hg:PG X tg g)(hs:swapsWithSole [tg] e pos.line X.env=pure false:=by rfl)(hw:swappedStores [tg] e X.env=pure none:=by rfl)
  (h1:(assignEach [tg] X.env).map (·.2)= [assign tg X.env]:=by rfl):PS X (.Assign [tg] e pos) (tAsg te g):=by
 intro pins s σ H D I h
 refine wpAny_Assign_stores (thn (he pins s σ H _ I h) fun v s1 ⟨x,H1,I1,r1,q1⟩=> ?_) hs hw
 rw [h1]
 exact thn (hg pins s1 σ H1 x v _ I1 r1 q1) fun _ s2 q=>q
theorem yB{i:Nat}{x:Str}{e:Expr}{te:TE}{pos':Pos}(hN:X.N.Nodup)(hi:X.N[i]? =some x)(hx:Loc X.env.scope x)(he:PE X e te)(hs:swapsWith e (some (.Name x pos')) pos.line X.env=pure false:=by rfl)(hf:X.fn x=true∨X.env.scope.names.lookup x=some .local:=by first | exact .inl rfl | exact .inr rfl | assumption) :
  PS X (.Assign [.Name x pos'] e pos) (tAsg te (QP i)):=by
 intro pins s σ H D I h
 refine wpAny_Assign_Name (thn (he pins s σ H _ I h) fun v s1 ⟨y,H1,I1,r1,q1⟩=> ?_) hs
 exact LQ I1 hN hi hx r1 (fun s2 I2=>⟨_,H1,I2,q1⟩) hf
def tAug(i:Nat)(te:TE)(ti:TIp):TS:=fun D σ H=>∃x,σ[i]? =some (some x)∧te σ H fun y H1=>ti x y H1 fun z H2=>D.nx (σ.set i (some z)) H2
theorem ybo{i:Nat}{x:Str}{e:Expr}{te:TE}{op:Operator}{ti:TIp}{pos':Pos}(hN:X.N.Nodup)(hi:X.N[i]? =some x)(hx:Loc X.env.scope x)(he:PE X e te)(ho:PIp X op ti)(hf:X.fn x=true∨X.env.scope.names.lookup x=some .local:=by first | exact .inl rfl | exact .inr rfl | assumption) :
  PS X (.AugAssign (.Name x pos') op e pos) (tAug i te ti):=by
 intro pins s σ H D I h
 obtain⟨v,e1,h⟩:=h
 obtain⟨m,hn,hl⟩:=I.loc
 have vis:Vis X.env.scope x:=by rcases hx with k | k; exact .inl k; exact .inr (.inl k)
 obtain⟨u,r,l⟩:=hl i x v hi e1 vis
 refine wpAny_AugAssign_Name ?_
 have go:wpAny (model X.prog X.w) X.A (eval e X.env) (fun w s₂=>wpAny (model X.prog X.w) X.A (inplaceOp op u w) (fun r s₃=>wpAny (model X.prog X.w) X.A (storeName X.env x r) (fun _=>SP X pins D .next) X.xe s₃) X.xe s₂) X.xe s:=by
  refine thn (he pins s σ H _ I h) fun w s1 ⟨y,H1,I1,r1,q1⟩=> ?_
  refine thn (ho pins s1 σ H1 v y u w _ I1 r r1 q1) fun z s2 ⟨zv,H2,I2,r2,q2⟩=> ?_
  exact LQ I2 hN hi hx r2 (fun s3 I3=>⟨_,H2,I3,q2⟩) hf
 rcases l with⟨hk,hm⟩ | ⟨hk,c,hc,hcell⟩
 ·exact wpAny_loadName_local I.ok.kind hk hn hm go
 ·rcases hk with hk | hk
  ·exact wpAny_loadName_cell I.ok.kind hk hc hcell go
  ·rcases hx with k | k
   ·have:X.env.scope.names.lookup x=some .free:=hk
    rw [k] at this; cases this
   ·have:X.env.scope.names.lookup x=some .free:=hk
    rw [k] at this; cases this
def ipI(f:Int→Int→Int):TIp:=fun x y H Q=>∃i j,x= .int i∧y= .int j∧Q (.int (f i j)) H
theorem yay:PIp X .Add (ipI fun i j=>i + j):=by
 intro pins s σ H x y v u Q I r1 r2 h
 obtain⟨i,j,e1,e2,q⟩:=h
 subst e1; subst e2
 obtain⟨t,rfl⟩:=r1
 obtain⟨t',rfl⟩:=r2
 exact iadd_int ⟨.int _,H,I.tok _,⟨_,rfl⟩,q⟩
end
section
variable{X:Cx}{pos:Pos}
def yby(c:TT)(tb:TS):TS:=fun D σ H=>∃W:Nat→St→Hp→Prop,(∃m,W m σ H)∧∀m σ H,W m σ H→
 c σ H fun b H1=>if b=true then ∃N:St→Hp→Prop,(∀σ' H',N σ' H'→∃m',m' < m∧W m' σ' H')∧tb {D with nx:=N,ct:=N,bk:=D.nx} σ H1 else D.nx σ H1
theorem Ql{c:Expr}{body:List Stmt}{tc:TT}{tb:TS}(hp:PassesOwn (model X.prog X.w) X.A X.env X.xe)(hc:PT X c tc)(hb:PSs X body tb):PS X (.While c body [] pos) (yby tc tb):=by
 intro pins s σ H D I h
 obtain⟨W,⟨m0,w0⟩,turn⟩:=h
 refine wpAny_While (codeAny_whileLoop (fun n s'=>∃σ' H',Inv X pins σ' H' s'∧W n σ' H') ?_ m0 ⟨σ,H,I,w0⟩)
 rintro n s1 ⟨σ1,H1,I1,w1⟩
 refine wpAny_passesOwn hp (thn (hc pins s1 σ1 H1 _ I1 (turn n σ1 H1 w1)) fun b s2 ⟨H2,I2,q2⟩=> ?_)
 cases b with
 | true=>
  obtain⟨N,hN,q2⟩:=q2
  rw [if_pos rfl]
  refine wpAny_passesOwn hp (thn (hb pins s2 σ1 H2 _ I2 q2) fun f s3 q3=> ?_)
  cases f with
  | next=>
   obtain⟨σ3,H3,I3,n3⟩:=q3
   obtain⟨m',hm,w3⟩:=hN σ3 H3 n3
   exact⟨m',hm,σ3,H3,I3,w3⟩
  | cont=>
   obtain⟨σ3,H3,I3,n3⟩:=q3
   obtain⟨m',hm,w3⟩:=hN σ3 H3 n3
   exact⟨m',hm,σ3,H3,I3,w3⟩
  | brk=>exact q3
  | ret v=>exact q3
 | false=>
  rw [if_neg ycp]
  exact wpAny_execs_nil ⟨σ1,H2,I2,q2⟩
end
structure It where
 go:Nat→Hp→Prop
 yld:Nat→Hp→V→Hp→Prop
 stop:Nat→Hp→Prop
def LF(X:Cx)(pins:List (Addr × Obj))(H:Hp)(b:Addr):Prop:=
 H b=none∧b ≠ X.env.locals∧b ∉ X.fs∧(b ∈ X.ex∨X.s₀.heap.objs.size≤b)∧(∀x c,X.env.cells.lookup x=some c→c ≠ b)∧∀p ∈ X.pn ++ pins,p.1 ≠ b
theorem Inv.fpOk{X:Cx}{pins:List (Addr × Obj)}{σ:St}{H H':Hp}{s:Shared}{b:Addr}(I:Inv X pins σ H s)(hb:s.heap.objs.size≤b)(hn:H' b=none):LF X pins H' b:=by
 refine⟨hn,ydf (ycm I.lt hb),I.nofs hb, .inr (ydw I.sz hb),fun x c e z=> ?_,fun p hp z=> ?_⟩
 ·obtain⟨v,q⟩:=I.cell x c e
  exact absurd (ycm q.lt (by rw [z]; exact hb)) (yd3 _)
 ·exact absurd (ycm (Heap.lt_size (I.pin p hp).1) (by rw [z]; exact hb)) (yd3 _)
structure Turn (P:Program) (w:World) (K:yc3) (tg:Expr) (J:It) (fp:List Addr) (it:Addr) (tn:Nat→Heap→Prop):Prop where
 mem:it ∈ fp
 obj:∀i h,tn i h→∀b ∈ fp,∃o,h.get? b=some o∧∀v,o.data ≠ .cell v
 keep:∀i h h',tn i h→(∀b ∈ fp,∀o,h.get? b=some o→h'.get? b=some o)→tn i h'
 item:∀(X:Cx),X.prog=P→X.w=w→X.K=K→X.calm=true→∀(i:Nat) (pins:List (Addr × Obj)) (s:Shared) (σ:St) (H:Hp) (E:Value→Shared→Prop),Inv X pins σ H s→(∀b ∈ fp,LF X pins H b)→tn i s.heap→J.go i H→
  wpAny (model P w) X.A (pyNext (.ref it)) (fun r s1=>∃u,r=some u∧
   wpAny (model P w) X.A (letOwnedTupleGo tg (.ref it) u) (fun _ s2=>∃x H',Inv X pins σ H' s2∧yH x u∧J.yld i H x H'∧tn (i + 1) s2.heap∧∀b ∈ fp,H' b=none) E s1) E s
 done:∀(X:Cx),X.prog=P→X.w=w→X.K=K→X.calm=true→∀(i:Nat) (pins:List (Addr × Obj)) (s:Shared) (σ:St) (H:Hp) (E:Value→Shared→Prop),Inv X pins σ H s→(∀b ∈ fp,LF X pins H b)→tn i s.heap→J.stop i H→
  wpAny (model P w) X.A (pyNext (.ref it)) (fun r s1=>r=none∧Inv X pins σ H s1) E s
 self:∀(A:Around) (i:Nat) (s:Shared) (Q:Value→Shared→Prop) (E:Value→Shared→Prop),tn i s.heap→Q (.ref it) s→wpAny (model P w) A (pyIter (.ref it)) Q E s
abbrev TI:=St→Hp→(It→Hp→Prop)→Prop
def PIE(X:Cx)(pins:List (Addr × Obj))(σ:St)(tg:Expr)(R:It→Hp→Prop)(itv:Value)(s2:Shared):Prop:=
 ∃(it:Addr) (fp:List Addr) (tn:Nat→Heap→Prop) (J:It) (H':Hp),itv= .ref it∧Inv X pins σ H' s2∧Turn X.prog X.w X.K tg J fp it tn∧tn 0 s2.heap∧(∀b ∈ fp,LF X pins H' b)∧R J H'
def PI(X:Cx)(tg iter:Expr)(wi:TI):Prop:=
 ∀(pins:List (Addr × Obj)) (s:Shared) (σ:St) (H:Hp) (R:It→Hp→Prop),Inv X pins σ H s→wi σ H R→
  wpAny (model X.prog X.w) X.A (eval iter X.env) (fun v s1=>wpAny (model X.prog X.w) X.A (pyIter v) (PIE X pins σ tg R) X.xe s1) X.xe s
theorem zu {M : Model} {A : Around} {E : Value → Shared → Prop} {s : Shared} {tg : Expr} {it : Addr} {u : Value} {o : Obj} {n : String} {vs : Array Value} {Q : Unit → Shared → Prop} (ho : s.heap.get? it = some o) (hc : o.cls = .type n) (hd : o.data = .fields vs)
    (hn : ["enumerate", "zip", "dict_itemiterator", "dict_reverseitemiterator", "odict_iterator", "itertools.zip_longest", "itertools.pairwise"].contains n = false) (hQ : Q () s) : wpAny M A (letOwnedTupleGo tg (.ref it) u) Q E s := by
  unfold letOwnedTupleGo
  cases tg <;> first
    | exact wpAny_pure hQ
    | (cases u <;> first
        | exact wpAny_pure hQ
        | (refine wpAny_bind (wpAny_load ho ?_)
           rw [hc, hd]
           show wpAny M A (if (["enumerate", "zip", "dict_itemiterator", "dict_reverseitemiterator", "odict_iterator", "itertools.zip_longest", "itertools.pairwise"].contains n && vs[0]? == some (rawInt _)) = true then _ else _) Q E s
           rw [if_neg (by intro h; rw [hn, Bool.false_and] at h; cases h)]
           exact wpAny_pure hQ))
def Itl(K:yc3)(a:Addr):It:=
 ⟨fun i H=>∃xs x,SqL K H a xs∧xs[i]? =some x,fun i H x H'=>H'=H∧∀xs,SqL K H a xs→xs[i]? =some x,fun i H=>∃xs,SqL K H a xs∧xs.length≤i⟩
def Itt(K:yc3)(a:Addr):It:=
 ⟨fun i H=>∃xs x,SqT K H a xs∧xs[i]? =some x,fun i H x H'=>H'=H∧∀xs,SqT K H a xs→xs[i]? =some x,fun i H=>∃xs,SqT K H a xs∧xs.length≤i⟩
def Itr(lo:Int)(n:Nat):It:=⟨fun i _=>i < n,fun i H x H'=>H'=H∧x= .int (lo + i),fun i _=>n≤i⟩
theorem xI{P:Program}{w:World}{K:yc3}{tg:Expr}(a it:Addr):Turn P w K tg (Itl K a) [it] it (fun i h=>h.IsListIter it a i) where
 mem:=by simp
 obj:=fun i h st b hb=>by
  have e:b=it:=by simpa using hb
  subst e
  obtain⟨o,e,c,d⟩:=st
  exact⟨o,e,fun v z=>by rw [d] at z; cases z⟩
 keep:=fun i h h' st k=>st.at fun o e=>k it (by simp) o e
 item:=by
  intro X hP hw hK hc i pins s σ H E I hf st hg
  subst hP hw hK
  obtain⟨xs,x,hq,hx⟩:=hg
  obtain⟨its,rv,p,hz⟩:=I.list hq
  obtain⟨u,hu,ru⟩:=rv.get hx
  obtain⟨f0,f1,f2,f3,f4,f5⟩:=hf it (by simp)
  refine wpAny_pyNext_list_item st p.isList (x:=u) (by simpa using hu) fun h' st' sb=> ?_
  have I1:Inv X pins σ H {s with heap:=h'}:=I.turned (t':=s.toks) (fun b o hb e=>(sb.2 b hb).trans e) f0 f1 f3 f4 f5
  obtain⟨o,e,c,d⟩:=id st'
  exact⟨u,rfl,zu (s:={s with heap:=h'}) e c d (by decide) ⟨x,H,I1,ru,⟨rfl,fun ys hy=>by rw [I.list_inj hy hq]; exact hx⟩,st',fun b hb=>(hf b hb).1⟩⟩
 done:=by
  intro X hP hw hK hc i pins s σ H E I hf st hg
  subst hP hw hK
  obtain⟨xs,hq,hx⟩:=hg
  obtain⟨its,rv,p,hz⟩:=I.list hq
  obtain⟨f0,f1,f2,f3,f4,f5⟩:=hf it (by simp)
  have hl:=rv.length
  exact wpAny_pyNext_list_end (I.ok.hd hc) st p.isList (by simp; omega) fun h' eb=>⟨rfl,I.turned (t':=s.toks) (fun b o hb e=>eb b o hb e) f0 f1 f3 f4 f5⟩
 self:=fun _ _ _ _ _ st h=>wpAny_pyIter_listiter st h
theorem y1m{P:Program}{w:World}{K:yc3}{tg:Expr}(a it:Addr):Turn P w K tg (Itt K a) [it] it (fun i h=>h.IsTupleIter it a i) where
 mem:=by simp
 obj:=fun i h st b hb=>by
  have e:b=it:=by simpa using hb
  subst e
  obtain⟨o,e,c,d⟩:=st
  exact⟨o,e,fun v z=>by rw [d] at z; cases z⟩
 keep:=fun i h h' st k=>st.at fun o e=>k it (by simp) o e
 item:=by
  intro X hP hw hK hc i pins s σ H E I hf st hg
  subst hP hw hK
  obtain⟨xs,x,hq,hx⟩:=hg
  obtain⟨its,rv,p,hz⟩:=I.tuple hq
  obtain⟨u,hu,ru⟩:=rv.get hx
  obtain⟨f0,f1,f2,f3,f4,f5⟩:=hf it (by simp)
  refine wpAny_pyNext_tuple_item st (show s.heap.IsTuple a its.toArray from p) (x:=u) (by simpa using hu) fun h' st' sb=> ?_
  have I1:Inv X pins σ H {s with heap:=h'}:=I.turned (t':=s.toks) (fun b o hb e=>(sb.2 b hb).trans e) f0 f1 f3 f4 f5
  obtain⟨o,e,c,d⟩:=id st'
  exact⟨u,rfl,zu (s:={s with heap:=h'}) e c d (by decide) ⟨x,H,I1,ru,⟨rfl,fun ys hy=>by rw [I.tuple_inj hy hq]; exact hx⟩,st',fun b hb=>(hf b hb).1⟩⟩
 done:=by
  intro X hP hw hK hc i pins s σ H E I hf st hg
  subst hP hw hK
  obtain⟨xs,hq,hx⟩:=hg
  obtain⟨its,rv,p,hz⟩:=I.tuple hq
  obtain⟨f0,f1,f2,f3,f4,f5⟩:=hf it (by simp)
  have hl:=rv.length
  exact wpAny_pyNext_tuple_end (I.ok.hd hc) st (show s.heap.IsTuple a its.toArray from p) (by simp; omega) fun h' eb=>⟨rfl,I.turned (t':=s.toks) (fun b o hb e=>eb b o hb e) f0 f1 f3 f4 f5⟩
 self:=fun _ _ _ _ _ st h=>wpAny_pyIter_tupleiter st h
theorem y2r{P:Program}{w:World}{K:yc3}{tg:Expr}(it:Addr)(lo:Int)(n:Nat):Turn P w K tg (Itr lo n) [it] it (fun i h=>IsRangeIter h it (lo + (i:Nat) * 1) ((n:Int) - (i:Nat)) 1) where
 mem:=by simp
 obj:=fun i h st b hb=>by
  have e:b=it:=by simpa using hb
  subst e
  exact⟨_,st,fun v z=>by
   have z':Data.fields _=Data.cell v:=z
   cases z'⟩
 keep:=fun i h h' st k=>k it (by simp) _ st
 item:=by
  intro X hP hw hK hc i pins s σ H E I hf st hg
  subst hP hw hK
  obtain⟨f0,f1,f2,f3,f4,f5⟩:=hf it (by simp)
  have W:=Walks.range (prog:=X.prog) (w:=X.w) (I.ok.hd hc) it lo 1 n
  refine W.item i s _ _ hg st fun v h' tk hv st' kk=> ?_
  obtain⟨t,rfl⟩:=hv
  have I1:Inv X pins σ H {s with heap:=h',toks:=tk}:=I.turned (fun b o hb e=>kk b o (by simpa using hb) e) f0 f1 f3 f4 f5
  refine⟨_,rfl,zu (s:={s with heap:=h',toks:=tk}) (n:="range_iterator") st' rfl rfl (by decide) ⟨.int (lo + i),H,I1,⟨t, ?_⟩,⟨rfl,rfl⟩,st',fun b hb=>(hf b hb).1⟩⟩
  rw [Int.mul_one]
 done:=by
  intro X hP hw hK hc i pins s σ H E I hf st hg
  subst hP hw hK
  obtain⟨f0,f1,f2,f3,f4,f5⟩:=hf it (by simp)
  exact wpAny_pyNext_range_end (I.ok.hd hc) st (by have:n≤i:=hg; omega) fun h' eb=>⟨rfl,I.turned (t':=s.toks) (fun b o hb e=>eb b o hb e) f0 f1 f3 f4 f5⟩
 self:=fun _ _ _ _ _ st h=>wpAny_pyIter_rangeiter st h
end L2
namespace L2
open PySem PySem.Spec PyProof.Rows
section
variable{X:Cx}{tg:Expr}
def iList(K:yc3)(tl:TE):TI:=fun σ H R=>tl σ H fun x H1=>∃a,x= .ref a∧(∃xs,SqL K H1 a xs)∧R (Itl K a) H1
theorem Yx{l:Expr}{tl:TE}(hl:PE X l tl):PI X tg l (iList X.K tl):=by
 intro pins s σ H R I h
 refine thn (hl pins s σ H _ I h) fun v s1 ⟨x,H1,I1,r1,q1⟩=> ?_
 obtain⟨a,e,⟨xs,hq⟩,q⟩:=q1
 subst e
 cases r1
 obtain⟨its,rv,p,hz⟩:=I1.list hq
 refine wpAny_pyIter_list p.isList ?_
 refine⟨s1.heap.objs.size, [s1.heap.objs.size],_,_,H1,rfl,I1.kept (t':=s1.toks) fun b o e=>Heap.get?_push_of_some _ e,xI a _,⟨_,Heap.get?_push_size _ rfl,rfl,rfl⟩,fun b hb=> ?_,q⟩
 have e:b=s1.heap.objs.size:=by simpa using hb
 subst e
 exact I1.fpOk (yc6 _) (I1.hok.fresh (yc6 _))
theorem y65{pins:List (Addr × Obj)}{σ:St}{H:Hp}{s:Shared}{R:It→Hp→Prop}{E:Value→Shared→Prop}{lo hi:Int}{t u v:Tok}{tk:Nat}(I:Inv X pins σ H s)(h1: -(2 ^ 62)≤lo)(h2:lo < 2 ^ 62)(h3: -(2 ^ 62)≤hi)(h4:hi < 2 ^ 62)
  (q:R (Itr lo (hi - lo).toNat) H):wpAny (model X.prog X.w) X.A (pyIter (.ref s.heap.objs.size)) (PIE X pins σ tg R) E {s with heap:=s.heap.push {cls:= .type "range",data:= .fields #[.int lo t, .int hi u, .int 1 v]},toks:=tk}:=by
 refine wpAny_pyIter_range (IsRange.new ..) (small_one h1 h2 h3 h4) ?_
 have I1:Inv X pins σ H {s with heap:=s.heap.push {cls:= .type "range",data:= .fields #[.int lo t, .int hi u, .int 1 v]},toks:=tk}:=I.kept fun b o e=>Heap.get?_push_of_some _ e
 refine⟨(s.heap.push {cls:= .type "range",data:= .fields #[.int lo t, .int hi u, .int 1 v]}).objs.size, [(s.heap.push {cls:= .type "range",data:= .fields #[.int lo t, .int hi u, .int 1 v]}).objs.size],_,_,H,rfl,
  I1.kept (t':=tk) fun b o e=>Heap.get?_push_of_some _ e,y2r _ lo (hi - lo).toNat, ?_,fun b hb=> ?_,q⟩
 ·have e1:lo + ((0:Nat):Int) * 1=lo:=by simp
  have e2:(((hi - lo).toNat:Nat):Int) - ((0:Nat):Int)=Builtin.Range.rangeSize lo hi 1:=by rw [rangeSize_one]; split <;> omega
  show IsRangeIter _ _ (lo + ((0:Nat):Int) * 1) ((((hi - lo).toNat:Nat):Int) - ((0:Nat):Int)) 1
  rw [e1,e2]
  exact Heap.get?_push_size _ rfl
 ·have e:b=(s.heap.push {cls:= .type "range",data:= .fields #[.int lo t, .int hi u, .int 1 v]}).objs.size:=by simpa using hb
  subst e
  exact I1.fpOk (yc6 _) (I1.hok.fresh (yc6 _))
def iRng1(ta:TA):TI:=fun σ H R=>ta σ H fun vs H1=>∃j:Int,vs= [.int j]∧ -(2 ^ 62)≤j∧j < 2 ^ 62∧R (Itr 0 j.toNat) H1
theorem Jk{a:Expr}{ta:TA}{p pos:Pos}(hg:Gl X "range")(hm:X.mg "range" =none)(ha:PA X [a] ta)(hs:starEach [a] X.env= [(false,eval a X.env)]:=by rfl):PI X tg (.Call (.Name "range" p) [a] [] pos) (iRng1 ta):=by
 intro pins s σ H R I h
 refine Call_ (JP I hg hm boot_range (PyProof.Rows.callWith_type1 (thn (ha pos pins s σ H _ I h) fun us s1 ⟨vs,H1,I1,r1,q1⟩=> ?_) hs rfl))
 obtain⟨j,e,q1,q2,q⟩:=q1
 subst e
 cases r1 with
 | cons r rr=>
  cases rr
  obtain⟨t,rfl⟩:=r
  exact call_range_1 (y65 I1 (by omega) (by omega) q1 q2 (by simpa using q))
def tFor(wi:TI)(g:TG)(tb:TS):TS:=fun D σ H=>wi σ H fun J H1=>∃W:Nat→Nat→St→Hp→Prop,(∃m,W 0 m σ H1)∧∀i m σ H,W i m σ H→
 (J.stop i H∧D.nx σ H)∨(J.go i H∧∃N:St→Hp→Prop,(∀σ' H',N σ' H'→∃m',m' < m∧W (i + 1) m' σ' H')∧∀x H',J.yld i H x H'→g x σ H' fun σ2 H2=>tb {D with nx:=N,ct:=N,bk:=D.nx} σ2 H2)
def Zu(fp:List Addr)(h:Heap):List (Addr × Obj):=fp.filterMap fun b=>(h.get? b).map fun o=>(b,o)
theorem Lx{fp:List Addr}{h:Heap}{b:Addr}{o:Obj}(hb:b ∈ fp)(e:h.get? b=some o):(b,o) ∈ Zu fp h:=yfk.mpr ⟨b,hb,by rw [e]; rfl⟩
theorem y3r{fp:List Addr}{h:Heap}{p:Addr × Obj}(hp:p ∈ Zu fp h):p.1 ∈ fp∧h.get? p.1=some p.2:=by
 obtain⟨b,hb,e⟩:=yfk.mp hp
 cases q:h.get? b with
 | none=>rw [q] at e; cases e
 | some o=>
  rw [q] at e
  have e':(b,o)=p:=Option.some.inj e
  subst e'
  exact⟨hb,q⟩
theorem Inv.pinned{pins:List (Addr × Obj)}{σ:St}{H:Hp}{s:Shared}{fp:List Addr}(I:Inv X pins σ H s)(hf:∀b ∈ fp,LF X pins H b)(ho:∀b ∈ fp,∃o,s.heap.get? b=some o∧∀v,o.data ≠ .cell v):Inv X (pins ++ Zu fp s.heap) σ H s:=
 I.pins_of fun p hp=>(ycw.mp hp).elim (fun z=>I.pin p (ycx _ z)) fun z=>by
  obtain⟨hb,e⟩:=y3r z
  obtain⟨f0,f1,f2,_⟩:=hf p.1 hb
  obtain⟨o,e',d⟩:=ho p.1 hb
  rw [e] at e'; cases e'
  exact⟨e,f0,f1,f2,d⟩
theorem Inv.unpinned{pins pl:List (Addr × Obj)}{σ:St}{H:Hp}{s:Shared}(I:Inv X (pins ++ pl) σ H s):Inv X pins σ H s:=I.pins_of fun p hp=>I.pin p (ycx _ (yde _ hp))
theorem JW{iter:Expr}{body:List Stmt}{wi:TI}{g:TG}{tb:TS}{pos:Pos}(hp:PassesOwn (model X.prog X.w) X.A X.env X.xe)(hc:X.calm=true)(hi:PI X tg iter wi)(hg:PG X tg g)(hb:PSs X body tb)
  (hs:∀x,foldedSetIterable iter X.env x=pure x:=by intro _; rfl):PS X (.For tg iter body [] pos) (tFor wi g tb):=by
 intro pins s σ H D I h
 refine wpAny_For (thn (hi pins s σ H _ I h) fun v s1 h1=>thn h1 fun itv s2 h2=> ?_) hs
 obtain⟨it,fp,tn,J,H2,e,I2,T,st2,f2,W,⟨m0,w0⟩,turn⟩:=h2
 subst e
 have stat:∀{H':Hp},(∀b ∈ fp,H' b=none)→∀b ∈ fp,LF X pins H' b:=fun hn b hb=>⟨hn b hb,(f2 b hb).2⟩
 refine codeAny_forLoop_any (fun n s'=>∃i σ' H',Inv X pins σ' H' s'∧tn i s'.heap∧(∀b ∈ fp,H' b=none)∧W i n σ' H') ?_ m0 ⟨0,σ,H2,I2,st2,fun b hb=>(f2 b hb).1,w0⟩
 rintro n s3 ⟨i,σ3,H3,I3,st3,fr3,w3⟩
 rcases turn i n σ3 H3 w3 with⟨stop,qn⟩ | ⟨go,N,hN,step⟩
 ·refine wpAny_passesOwn hp (thn (T.done X rfl rfl rfl hc i pins s3 σ3 H3 X.xe I3 (stat fr3) st3 stop) fun r s4 ⟨hr,I4⟩=> ?_)
  subst hr
  exact wpAny_execs_nil ⟨σ3,H3,I4,qn⟩
 ·refine wpAny_passesOwn hp (thn (T.item X rfl rfl rfl hc i pins s3 σ3 H3 X.xe I3 (stat fr3) st3 go) fun r s4 ⟨u,hr,h4⟩=> ?_)
  subst hr
  refine wpAny_passesOwn hp (thn h4 fun _ s5 ⟨x,H5,I5,r5,y5,st5,fr5⟩=> ?_)
  have I5':=I5.pinned (stat fr5) (T.obj _ _ st5)
  refine wpAny_passesOwn hp (thn (hg _ s5 σ3 H5 x u _ I5' r5 (step x H5 y5)) fun _ s6 ⟨σ6,H6,I6,q6⟩=> ?_)
  refine wpAny_passesOwn hp (thn (hb _ s6 σ6 H6 _ I6 q6) fun f s7 q7=> ?_)
  have again:∀{σ7:St} {H7:Hp},Inv X (pins ++ Zu fp s5.heap) σ7 H7 s7→N σ7 H7→∃m,m < n∧∃i σ' H',Inv X pins σ' H' s7∧tn i s7.heap∧(∀b ∈ fp,H' b=none)∧W i m σ' H':=fun {σ7 H7} I7 n7=>by
   obtain⟨m',hm,w7⟩:=hN σ7 H7 n7
   refine⟨m',hm,i + 1,σ7,H7,I7.unpinned,T.keep _ _ _ st5 fun b hb o e=>(I7.pin (b,o) (ycx _ (ycx _ (Lx hb e)))).1,fun b hb=> ?_,w7⟩
   obtain⟨o,e,d⟩:=T.obj _ _ st5 b hb
   exact(I7.pin (b,o) (ycx _ (ycx _ (Lx hb e)))).2.1
  cases f with
  | next=>obtain⟨σ7,H7,I7,n7⟩:=q7; exact again I7 n7
  | cont=>obtain⟨σ7,H7,I7,n7⟩:=q7; exact again I7 n7
  | brk=>obtain⟨σ7,H7,I7,q7⟩:=q7; exact⟨σ7,H7,I7.unpinned,q7⟩
  | ret v=>obtain⟨x7,σ7,H7,I7,r7,q7⟩:=q7; exact⟨x7,σ7,H7,I7.unpinned,r7,q7⟩
end
theorem VN{K:yc3}{a:Addr}{xs:List V}{g:TG}{tb:TS}{D:Ends}{σ:St}{H:Hp}(Pv:Nat→St→Hp→Prop)(h0:Pv 0 σ H)(hl:∀i σ H,i≤xs.length→Pv i σ H→SqL K H a xs)
  (hs:∀i x σ H,xs[i]? =some x→Pv i σ H→g x σ H fun σ2 H2=>tb {D with nx:=Pv (i + 1),ct:=Pv (i + 1),bk:=D.nx} σ2 H2) (hd:∀σ H,Pv xs.length σ H→D.nx σ H) :
  ∃W:Nat→Nat→St→Hp→Prop,(∃m,W 0 m σ H)∧∀i m σ H,W i m σ H→
   ((Itl K a).stop i H∧D.nx σ H)∨((Itl K a).go i H∧∃N:St→Hp→Prop,(∀σ' H',N σ' H'→∃m',m' < m∧W (i + 1) m' σ' H')∧∀x H',(Itl K a).yld i H x H'→g x σ H' fun σ2 H2=>tb {D with nx:=N,ct:=N,bk:=D.nx} σ2 H2):=by
 refine⟨fun i m σ H=>m=xs.length - i∧i≤xs.length∧Pv i σ H,⟨xs.length,by simp,yd9 _,h0⟩, ?_⟩
 rintro i m σ H ⟨rfl,hi,p⟩
 have q:=hl i σ H hi p
 by_cases hlt:i < xs.length
 ·refine .inr ⟨⟨xs,xs[i],q,by simp [hlt]⟩,Pv (i + 1),fun σ' H' p'=>⟨xs.length - (i + 1),by omega,rfl,hlt,p'⟩,fun x H' y=> ?_⟩
  obtain⟨e,y⟩:=y
  subst e
  exact hs i x σ _ (y xs q) p
 ·have e:i=xs.length:=by omega
  subst e
  exact .inl ⟨⟨xs,q,yc6 _⟩,hd σ H p⟩
theorem Zm{lo:Int}{n:Nat}{g:TG}{tb:TS}{D:Ends}{σ:St}{H:Hp}(Pv:Nat→St→Hp→Prop)(h0:Pv 0 σ H)
  (hs:∀i σ H,i < n→Pv i σ H→g (.int (lo + i)) σ H fun σ2 H2=>tb {D with nx:=Pv (i + 1),ct:=Pv (i + 1),bk:=D.nx} σ2 H2) (hd:∀σ H,Pv n σ H→D.nx σ H) :
  ∃W:Nat→Nat→St→Hp→Prop,(∃m,W 0 m σ H)∧∀i m σ H,W i m σ H→
   ((Itr lo n).stop i H∧D.nx σ H)∨((Itr lo n).go i H∧∃N:St→Hp→Prop,(∀σ' H',N σ' H'→∃m',m' < m∧W (i + 1) m' σ' H')∧∀x H',(Itr lo n).yld i H x H'→g x σ H' fun σ2 H2=>tb {D with nx:=N,ct:=N,bk:=D.nx} σ2 H2):=by
 refine⟨fun i m σ H=>m=n - i∧i≤n∧Pv i σ H,⟨n,by simp,yd9 _,h0⟩, ?_⟩
 rintro i m σ H ⟨rfl,hi,p⟩
 by_cases hlt:i < n
 ·refine .inr ⟨hlt,Pv (i + 1),fun σ' H' p'=>⟨n - (i + 1),by omega,rfl,hlt,p'⟩,fun x H' y=> ?_⟩
  obtain⟨e,y⟩:=y
  subst e y
  exact hs i σ _ hlt p
 ·have e:i=n:=by omega
  subst e
  exact .inl ⟨yc6 _,hd σ H p⟩
end L2
namespace L2
open PySem PySem.Spec PyProof.Rows
abbrev R2:=V→V→Hp→VK→Prop
def OpR(X:Cx)(f:Value→Value→Sem Value)(r:R2):Prop:=
 ∀(pins:List (Addr × Obj)) (s:Shared) (σ:St) (H:Hp) (x y:V) (v u:Value) (Q:VK),Inv X pins σ H s→yH x v→yH y u→r x y H Q→
  wpAny (model X.prog X.w) X.A (f v u) (EP X pins σ Q) X.xe s
def UnR(X:Cx)(f:Value→Sem Value)(r:V→Hp→VK→Prop):Prop:=
 ∀(pins:List (Addr × Obj)) (s:Shared) (σ:St) (H:Hp) (x:V) (v:Value) (Q:VK),Inv X pins σ H s→yH x v→r x H Q→
  wpAny (model X.prog X.w) X.A (f v) (EP X pins σ Q) X.xe s
def Jd(X:Cx)(f:Value)(r:List V→Hp→VK→Prop):Prop:=
 ∀(pins:List (Addr × Obj)) (s:Shared) (σ:St) (H:Hp) (xs:List V) (us:List Value) (Q:VK),Inv X pins σ H s→yz xs us→r xs H Q→
  wpAny (model X.prog X.w) X.A (call f us) (EP X pins σ Q) X.xe s
def tOp(r:R2)(ta tb:TE):TE:=fun σ H Q=>ta σ H fun x H1=>tb σ H1 fun y H2=>r x y H2 Q
def tUn(r:V→Hp→VK→Prop)(ta:TE):TE:=fun σ H Q=>ta σ H fun x H1=>r x H1 Q
def rI(C:Int→Int→Prop)(g:Int→Int→V):R2:=fun x y H Q=>∃i j,x= .int i∧y= .int j∧C i j∧Q (g i j) H
def rI0(g:Int→Int→V):R2:=fun x y H Q=>∃i j,x= .int i∧y= .int j∧Q (g i j) H
def rU(g:Int→V):V→Hp→VK→Prop:=fun x H Q=>∃i,x= .int i∧Q (g i) H
section
variable{X:Cx}{a b c:Expr}{ta tb tc:TE}{pos:Pos}
theorem binT(ha:PE X a ta)(hb:PE X b tb){pins:List (Addr × Obj)}{s:Shared}{σ:St}{H:Hp}{R:V→V→Hp→Prop}(I:Inv X pins σ H s)
  (h:ta σ H fun x H1=>tb σ H1 fun y H2=>R x y H2) {Q:Value→Shared→Prop} {f:Value→Value→Sem Value}
  (hf:∀v u s2 x y H2,Inv X pins σ H2 s2→yH x v→yH y u→R x y H2→wpAny (model X.prog X.w) X.A (f v u) Q X.xe s2) :
  wpAny (model X.prog X.w) X.A (eval a X.env) (fun v s₁=>wpAny (model X.prog X.w) X.A (eval b X.env) (fun u s₂=>wpAny (model X.prog X.w) X.A (f v u) Q X.xe s₂) X.xe s₁) X.xe s:=by
 refine thn (ha pins s σ H _ I h) fun v s1 ⟨x,H1,I1,r1,q1⟩=> ?_
 refine thn (hb pins s1 σ H1 _ I1 q1) fun u s2 ⟨y,H2,I2,r2,q2⟩=> ?_
 exact hf v u s2 x y H2 I2 r1 r2 q2
theorem yN{op:Operator}{r:R2}(ho:OpR X (binaryOp op) r)(ha:PE X a ta)(hb:PE X b tb):PE X (.BinOp a op b pos) (tOp r ta tb):=by
 intro pins s σ H Q I h
 exact wpAny_BinOp (binT ha hb I h fun v u s2 x y H2 I2 rx ry q=>ho pins s2 σ H2 x y v u Q I2 rx ry q)
theorem M8{op:UnaryOp}{r:V→Hp→VK→Prop}(ho:UnR X (unaryOp op) r)(ha:PE X a ta):PE X (.UnaryOp op a pos) (tUn r ta):=by
 intro pins s σ H Q I h
 exact UnaryOp_ (thn (ha pins s σ H _ I h) fun v s1 ⟨x,H1,I1,r1,q1⟩=>ho pins s1 σ H1 x v Q I1 r1 q1)
theorem opI{f:Value→Value→Sem Value}{C:Int→Int→Prop}{g:Int→Int→Int}
  (rule:∀(i j:Int) (t u:Tok) (s:Shared) (Q:Value→Shared→Prop) (E:Value→Shared→Prop),C i j→Q (.int (g i j) s.toks) {s with toks:=s.toks + 1}→wpAny (model X.prog X.w) X.A (f (.int i t) (.int j u)) Q E s) :
  OpR X f (rI C fun i j=> .int (g i j)):=by
 intro pins s σ H x y v u Q I rx ry h
 obtain⟨i,j,rfl,rfl,hc,q⟩:=h
 obtain⟨t,rfl⟩:=rx
 obtain⟨t',rfl⟩:=ry
 exact rule i j t t' s _ _ hc ⟨.int (g i j),H,I.tok _,⟨_,rfl⟩,q⟩
theorem opI0{f:Value→Value→Sem Value}{g:Int→Int→Int}
  (rule:∀(i j:Int) (t u:Tok) (s:Shared) (Q:Value→Shared→Prop) (E:Value→Shared→Prop),Q (.int (g i j) s.toks) {s with toks:=s.toks + 1}→wpAny (model X.prog X.w) X.A (f (.int i t) (.int j u)) Q E s) :
  OpR X f (rI0 fun i j=> .int (g i j)):=by
 intro pins s σ H x y v u Q I rx ry h
 obtain⟨i,j,rfl,rfl,q⟩:=h
 obtain⟨t,rfl⟩:=rx
 obtain⟨t',rfl⟩:=ry
 exact rule i j t t' s _ _ ⟨.int (g i j),H,I.tok _,⟨_,rfl⟩,q⟩
theorem opB0{f:Value→Value→Sem Value}{g:Int→Int→Bool}
  (rule:∀(i j:Int) (t u:Tok) (s:Shared) (Q:Value→Shared→Prop) (E:Value→Shared→Prop),Q (.bool (g i j)) s→wpAny (model X.prog X.w) X.A (f (.int i t) (.int j u)) Q E s) :
  OpR X f (rI0 fun i j=> .bl (g i j)):=by
 intro pins s σ H x y v u Q I rx ry h
 obtain⟨i,j,rfl,rfl,q⟩:=h
 obtain⟨t,rfl⟩:=rx
 obtain⟨t',rfl⟩:=ry
 exact rule i j t t' s _ _ ⟨.bl (g i j),H,I,rfl,q⟩
def CDiv(i j:Int):Prop:=0 < j∧j < 1073741824
def CPow(i j:Int):Prop:=0≤j∧j≤1000000∧i.natAbs < 2 ^ 64
def CMul(i j:Int):Prop:=(-(2 ^ 64) < i∧i < 2 ^ 64)∨(-(2 ^ 64) < j∧j < 2 ^ 64)
theorem CMul.ok{i j:Int}(h:CMul i j):IntMulOk i j:=by
 rcases h with⟨h1,h2⟩ | ⟨h1,h2⟩
 ·exact .of_left (intBits_le_64 h1 h2)
 ·exact .of_right (intBits_le_64 h1 h2)
theorem LR:OpR X (binaryOp .Add) (rI0 fun i j=> .int (i + j)):=opI0 fun _ _ _ _ _ _ _ q=>add_int q
theorem WQ:OpR X (binaryOp .Sub) (rI0 fun i j=> .int (i - j)):=opI0 fun _ _ _ _ _ _ _ q=>sub_int q
theorem yb8:OpR X (binaryOp .Mult) (rI CMul fun i j=> .int (i * j)):=opI fun _ _ _ _ _ _ _ hc q=>mul_int q hc.ok
theorem Vr:OpR X (binaryOp .FloorDiv) (rI CDiv fun i j=> .int (i / j)):=opI fun i j _ _ _ _ _ hc q=>by
 have h1:(0:Int) < j:=hc.1
 have h2:j < 1073741824:=hc.2
 exact floordiv_int (by omega) (by rw [Int.fdiv_eq_ediv_of_nonneg i (by omega)]; exact q) (.inl (PyProof.noPylong_small (by omega)))
theorem Ys:OpR X (binaryOp .Mod) (rI (fun _ j=>0 < j) fun i j=> .int (i % j)):=opI fun i j _ _ _ _ _ hc q=>by
 have h1:(0:Int) < j:=hc
 exact mod_int' (by omega) (by rw [Int.fmod_eq_emod_of_nonneg i (by omega)]; exact q)
theorem y5i:OpR X (binaryOp .Pow) (rI CPow fun i j=> .int (i ^ j.toNat)):=opI fun _ _ _ _ _ _ _ hc q=>pow_int_small hc.1 hc.2.1 hc.2.2 q
theorem unI{f:Value→Sem Value}{g:Int→Int}
  (rule:∀(i:Int) (t:Tok) (s:Shared) (Q:Value→Shared→Prop) (E:Value→Shared→Prop),Q (.int (g i) s.toks) {s with toks:=s.toks + 1}→wpAny (model X.prog X.w) X.A (f (.int i t)) Q E s) :
  UnR X f (rU fun i=> .int (g i)):=by
 intro pins s σ H x v Q I rx h
 obtain⟨i,rfl,q⟩:=h
 obtain⟨t,rfl⟩:=rx
 exact rule i t s _ _ ⟨.int (g i),H,I.tok _,⟨_,rfl⟩,q⟩
theorem L6:UnR X (unaryOp .USub) (rU fun i=> .int (-i)):=unI fun _ _ _ _ _ q=>neg_int q
end
def scal:V→V→Bool
 | .non, .non=>true | .non, .int _=>true | .int _, .non=>true | .non, .bl _=>true | .bl _, .non=>true | .non, .str _=>true | .str _, .non=>true
 | .int _, .int _=>true | .bl _, .bl _=>true | .str _, .str _=>true | .byt _, .byt _=>true
 | .int _, .str _=>true | .str _, .int _=>true | .bl _, .str _=>true | .str _, .bl _=>true
 | _,_=>false
def rEq:R2:=fun x y H Q=>scal x y=true∧Q (.bl (decide (x=y))) H
def rNe:R2:=fun x y H Q=>scal x y=true∧Q (.bl (!decide (x=y))) H
theorem y0o{i j:Int}:decide (V.int i=V.int j)=(i == j):=by
 rw [yf3]
 simp
theorem y2w{i j:Bool}:decide (V.bl i=V.bl j)=(i == j):=by
 rw [yf3]
 simp
theorem y11{i j:Str}:decide (V.str i=V.str j)=(i == j):=by
 rw [yf3]
 simp
theorem y14{i j:Array UInt8}:decide (V.byt i=V.byt j)=(i.toList == j.toList):=by
 rw [yf3]
 cases i
 cases j
 simp
section
variable{X:Cx}{a b c:Expr}{ta tb tc:TE}{pos:Pos}
theorem Y6{pins:List (Addr × Obj)}{σ:St}{H:Hp}{s:Shared}{Q:VK}{k k':Bool}(I:Inv X pins σ H s)(q:Q (.bl k) H)(e:k=k'):EP X pins σ Q (.bool k') s:=by
 subst e
 exact⟨.bl k,H,I,rfl,q⟩
theorem Y1:OpR X (compareOp .Eq) rEq:=by
 intro pins s σ H x y v u Q I rx ry h
 obtain⟨hs,q⟩:=h
 cases x with
 | non=>
  cases rx
  cases y with
  | non=>cases ry; exact PySem.EqNone.eq_none_none (Y6 I q (by simp))
  | bl j=>cases ry; exact PySem.EqNone.eq_none_bool (Y6 I q (by simp))
  | int j=>obtain⟨t',rfl⟩:=ry; exact PySem.EqNone.eq_none_int (Y6 I q (by simp))
  | str j=>obtain⟨t',rfl⟩:=ry; exact PySem.EqNone.eq_none_str (Y6 I q (by simp))
  | _=>exact absurd (show false=true from hs) ycp
 | bl i=>
  cases rx
  cases y with
  | non=>cases ry; exact PySem.EqNone.eq_bool_none (Y6 I q (by simp))
  | bl j=>cases ry; exact eq_bool (Y6 I q y2w)
  | str j=>obtain⟨t',rfl⟩:=ry; exact PySem.EqMixed.eq_bool_str (Y6 I q (by simp))
  | _=>exact absurd (show false=true from hs) ycp
 | int i=>
  obtain⟨t,rfl⟩:=rx
  cases y with
  | non=>cases ry; exact PySem.EqNone.eq_int_none (Y6 I q (by simp))
  | int j=>obtain⟨t',rfl⟩:=ry; exact eq_int (Y6 I q y0o)
  | str j=>obtain⟨t',rfl⟩:=ry; exact PySem.EqMixed.eq_int_str (Y6 I q (by simp))
  | _=>exact absurd (show false=true from hs) ycp
 | str i=>
  obtain⟨t,rfl⟩:=rx
  cases y with
  | non=>cases ry; exact PySem.EqNone.eq_str_none (Y6 I q (by simp))
  | bl j=>cases ry; exact PySem.EqMixed.eq_str_bool (Y6 I q (by simp))
  | int j=>obtain⟨t',rfl⟩:=ry; exact PySem.EqMixed.eq_str_int (Y6 I q (by simp))
  | str j=>obtain⟨t',rfl⟩:=ry; exact eq_str (Y6 I q y11)
  | _=>exact absurd (show false=true from hs) ycp
 | byt i=>
  obtain⟨t,rfl⟩:=rx
  cases y with
  | byt j=>obtain⟨t',rfl⟩:=ry; exact PySem.W.eq_bytes (Y6 I q y14)
  | _=>exact absurd (show false=true from hs) ycp
 | _=>cases y <;> exact absurd (show false=true from hs) ycp
theorem M0:OpR X (compareOp .NotEq) rNe:=by
 intro pins s σ H x y v u Q I rx ry h
 obtain⟨hs,q⟩:=h
 cases x with
 | non=>
  cases rx
  cases y with
  | non=>cases ry; exact PySem.EqNone.ne_none_none (Y6 I q (by simp))
  | bl j=>cases ry; exact PySem.EqNone.ne_none_bool (Y6 I q (by simp))
  | int j=>obtain⟨t',rfl⟩:=ry; exact PySem.EqNone.ne_none_int (Y6 I q (by simp))
  | str j=>obtain⟨t',rfl⟩:=ry; exact PySem.EqNone.ne_none_str (Y6 I q (by simp))
  | _=>exact absurd (show false=true from hs) ycp
 | bl i=>
  cases rx
  cases y with
  | non=>cases ry; exact PySem.EqNone.ne_bool_none (Y6 I q (by simp))
  | bl j=>cases ry; exact ne_bool (Y6 I q (congrArg not y2w))
  | str j=>obtain⟨t',rfl⟩:=ry; exact PySem.EqMixed.ne_bool_str (Y6 I q (by simp))
  | _=>exact absurd (show false=true from hs) ycp
 | int i=>
  obtain⟨t,rfl⟩:=rx
  cases y with
  | non=>cases ry; exact PySem.EqNone.ne_int_none (Y6 I q (by simp))
  | int j=>obtain⟨t',rfl⟩:=ry; exact ne_int (Y6 I q (congrArg not y0o))
  | str j=>obtain⟨t',rfl⟩:=ry; exact PySem.EqMixed.ne_int_str (Y6 I q (by simp))
  | _=>exact absurd (show false=true from hs) ycp
 | str i=>
  obtain⟨t,rfl⟩:=rx
  cases y with
  | non=>cases ry; exact PySem.EqNone.ne_str_none (Y6 I q (by simp))
  | bl j=>cases ry; exact PySem.EqMixed.ne_str_bool (Y6 I q (by simp))
  | int j=>obtain⟨t',rfl⟩:=ry; exact PySem.EqMixed.ne_str_int (Y6 I q (by simp))
  | str j=>obtain⟨t',rfl⟩:=ry; exact ne_str (Y6 I q (congrArg not y11))
  | _=>exact absurd (show false=true from hs) ycp
 | byt i=>
  obtain⟨t,rfl⟩:=rx
  cases y with
  | byt j=>obtain⟨t',rfl⟩:=ry; exact PySem.W.ne_bytes (Y6 I q (congrArg not y14))
  | _=>exact absurd (show false=true from hs) ycp
 | _=>cases y <;> exact absurd (show false=true from hs) ycp
theorem MM:OpR X (compareOp .Lt) (rI0 fun i j=> .bl (decide (i < j))):=opB0 fun _ _ _ _ _ _ _ q=>lt_int q
theorem y1z:OpR X (compareOp .LtE) (rI0 fun i j=> .bl (decide (i≤j))):=opB0 fun _ _ _ _ _ _ _ q=>le_int q
theorem y8b:OpR X (compareOp .Gt) (rI0 fun i j=> .bl (decide (j < i))):=opB0 fun _ _ _ _ _ _ _ q=>gt_int q
theorem op_ge:OpR X (compareOp .GtE) (rI0 fun i j=> .bl (decide (j≤i))):=opB0 fun _ _ _ _ _ _ _ q=>ge_int q
theorem yx(b:Expr){op:CmpOp}(h:op ≠ .In:=by decide)(h2:op ≠ .NotIn:=by decide):behindInMarks op b=false:=by
 have e1:(op == CmpOp.In)=false:=by cases op <;> first | rfl | exact absurd rfl h
 have e2:(op == CmpOp.NotIn)=false:=by cases op <;> first | rfl | exact absurd rfl h2
 cases b <;> simp [behindInMarks,e1,e2]
theorem jv{op:CmpOp}{r:R2}(ho:OpR X (compareOp op) r)(ha:PE X a ta)(hb:PE X b tb)(hm:behindInMarks op b=false):PE X (.Compare a [op] [b] pos) (tOp r ta tb):=by
 intro pins s σ H Q I h
 exact wpAny_Compare1 (binT ha hb I h fun v u s2 x y H2 I2 rx ry q=>ho pins s2 σ H2 x y v u Q I2 rx ry q) hm
def ZK(t:TE):TT:=fun σ H Q=>t σ H fun x H'=>∃k,x= .bl k∧Q k H'
theorem yt{op:CmpOp}{r:R2}(ho:OpR X (compareOp op) r)(ha:PE X a ta)(hb:PE X b tb)(hm:behindInMarks op b=false):PT X (.Compare a [op] [b] pos) (ZK (tOp r ta tb)):=by
 intro pins s σ H Q I h
 refine wpAny_isTrue_Compare1 (thn (ha pins s σ H _ I h) fun v s1 ⟨x,H1,I1,r1,q1⟩=>thn (hb pins s1 σ H1 _ I1 q1) fun u s2 ⟨y,H2,I2,r2,q2⟩=>
  thn (ho pins s2 σ H2 x y v u _ I2 r1 r2 q2) fun c s3 ⟨z,H3,I3,r3,k,e,q3⟩=> ?_) hm
 subst e
 cases r3
 exact wpAny_truthy_bool ⟨H3,I3,q3⟩
def Wi(r r':R2)(ta tb tc:TE):TE:=fun σ H Q=>ta σ H fun x H1=>tb σ H1 fun y H2=>r x y H2 fun z H3=>∃k,z= .bl k∧
 (if k=true then tc σ H3 fun w' H4=>r' y w' H4 Q else Q (.bl false) H3)
theorem y6z{op op':CmpOp}{r r':R2}(ho:OpR X (compareOp op) r)(ho':OpR X (compareOp op') r')(ha:PE X a ta)(hb:PE X b tb)(hc:PE X c tc)
  (hm:lastMarks [op,op'] [b,c]=false:=by with_unfolding_all rfl):PE X (.Compare a [op,op'] [b,c] pos) (Wi r r' ta tb tc):=by
 intro pins s σ H Q I h
 refine Compare_chain (thn (ha pins s σ H _ I h) fun v s1 ⟨x,H1,I1,r1,q1⟩=>chain_link (thn (hb pins s1 σ H1 _ I1 q1) fun u s2 ⟨y,H2,I2,r2,q2⟩=>
  thn (ho pins s2 σ H2 x y v u _ I2 r1 r2 q2) fun d s3 ⟨z,H3,I3,r3,k,e,q3⟩=> ?_)) hm
 subst e
 cases r3
 refine wpAny_truthy_bool ?_
 cases k with
 | false=>exact ite_ff ⟨.bl false,H3,I3,rfl,q3⟩
 | true=>exact ite_tt (chain_last (thn (hc pins s3 σ H3 _ I3 q3) fun w' s4 ⟨z',H4,I4,r4,q4⟩=>ho' pins s4 σ H4 y z' u w' Q I4 r2 r4 q4))
theorem y61{op op':CmpOp}{r r':R2}(ho:OpR X (compareOp op) r)(ho':OpR X (compareOp op') r')(ha:PE X a ta)(hb:PE X b tb)(hc:PE X c tc)
  (hm:lastMarks [op,op'] [b,c]=false:=by with_unfolding_all rfl):PT X (.Compare a [op,op'] [b,c] pos) (ZK (Wi r r' ta tb tc)):=by
 intro pins s σ H Q I h
 refine isTrue_chain (thn (ha pins s σ H _ I h) fun v s1 ⟨x,H1,I1,r1,q1⟩=>test_link (thn (hb pins s1 σ H1 _ I1 q1) fun u s2 ⟨y,H2,I2,r2,q2⟩=>
  thn (ho pins s2 σ H2 x y v u _ I2 r1 r2 q2) fun d s3 ⟨z,H3,I3,r3,k,e,q3⟩=> ?_)) hm
 subst e
 cases r3
 refine wpAny_truthy_bool ?_
 cases k with
 | false=>
  obtain⟨k',e',q'⟩:=q3
  cases e'
  exact ite_ff ⟨H3,I3,q'⟩
 | true=>
  refine ite_tt (test_last (thn (hc pins s3 σ H3 _ I3 q3) fun w' s4 ⟨z',H4,I4,r4,q4⟩=>thn (ho' pins s4 σ H4 y z' u w' _ I4 r2 r4 q4) fun d' s5 ⟨z2,H5,I5,r5,k2,e2,q5⟩=> ?_))
  subst e2
  cases r5
  exact wpAny_truthy_bool ⟨H5,I5,q5⟩
theorem Mp:(sizeLine:Nat) < 2 ^ 63:=by rw [sizeLine_eq]; decide
theorem jR{x:V}{us:List Value}(r:yz [x] us):∃u,us= [u]∧yH x u:=by
 cases r with
 | cons r1 r2=>cases r2; exact⟨_,rfl,r1⟩
theorem MT{x y:V}{us:List Value}(r:yz [x,y] us):∃u w',us= [u,w']∧yH x u∧yH y w':=by
 cases r with
 | cons r1 r2=>
  cases r2 with
  | cons r3 r4=>cases r4; exact⟨_,_,rfl,r1,r3⟩
theorem y4t(hc:X.calm=true):Jd X (.builtin "max") (fun xs H Q=>∃i j,xs= [.int i, .int j]∧Q (.int (if j > i then j else i)) H):=by
 intro pins s σ H xs us Q I r h
 obtain⟨i,j,rfl,q⟩:=h
 obtain⟨u,w',rfl,⟨t,rfl⟩,⟨t',rfl⟩⟩:=MT r
 refine max_two_ints (I.ok.hd hc) fun h' tk k=>⟨_,H,I.kept k, ?_,q⟩
 by_cases hj:j > i
 ·rw [if_pos hj,if_pos hj]; exact⟨_,rfl⟩
 ·rw [if_neg hj,if_neg hj]; exact⟨_,rfl⟩
theorem xm:Jd X (.type "int") (fun xs H Q=>(∃i,xs= [.int i]∧Q (.int i) H)∨∃k,xs= [.bl k]∧Q (.int (if k then 1 else 0)) H):=by
 intro pins s σ H xs us Q I r h
 rcases h with⟨i,rfl,q⟩ | ⟨k,rfl,q⟩
 ·obtain⟨u,rfl,t,rfl⟩:=jR r
  exact call_int_int ⟨.int i,H,I,⟨_,rfl⟩,q⟩
 ·obtain⟨u,rfl,r1⟩:=jR r
  cases r1
  exact call_int_bool ⟨.int (if k then 1 else 0),H,I.tok _,⟨_,rfl⟩,q⟩
end
end L2
namespace L2
open PySem PySem.Spec PyProof.Rows
structure ObjM (h:Heap) (x dx C:Addr) (mA:Str→Option Value):Prop where
 obj:h.get? x=some (yhv C dx)
 ns:h.Ns1 dx mA
 ne:dx ≠ x
theorem y53{h:Heap}{dx:Addr}{mA:Str→Option Value}(n:h.Ns1 dx mA):∃od,h.get? dx=some od∧∀name,yib name od=some (mA name):=by
 obtain⟨o,es,ep,ho,hd,hk,_,hm⟩:=n
 refine⟨o,ho,fun name=> ?_⟩
 have e:=hm name
 unfold nsFind findBy at e
 rw [←Array.find?_toList] at e
 unfold yib
 rw [hd]
 dsimp only
 split
 ·rename_i y q
  rw [q] at e
  exact congrArg some e
 ·rename_i q
  rw [q] at e
  have a:es.toList.any (·.refKey)=false:=by
   rw [List.any_eq_false]
   intro y hy
   obtain⟨z,t,hkey⟩:=hk y (Array.mem_toList_iff.mp hy)
   simp [DictEntry.refKey,hkey]
  have a':¬es.toList.any (·.refKey)=true:=by rw [a]; exact ycp
  rw [if_neg a']
  exact congrArg some e
theorem ObjM.look{h:Heap}{x dx C:Addr}{mA:Str→Option Value}(I:ObjM h x dx C mA):∃od,PySem.W.InstAt h x (yhv C dx) C (some od)∧∀name,yib name od=some (mA name):=
 let ⟨od,ho,hl⟩:=y53 I.ns
 ⟨od,⟨I.obj,rfl,rfl,ho⟩,hl⟩
section
variable{prog:Program}{w:World}{A:Around}{E:Value→Shared→Prop}{s:Shared}{K:yc3}{x dx C f:Addr}{mA:Str→Option Value}{name:Str}{v:Value}
end
theorem VM.some_of{v:V}{o:Option Value}(r:VM (some v) o):∃u,o=some u∧yH v u:=by
 cases o with
 | none=>exact(show False from r).elim
 | some u=>exact⟨u,rfl,r⟩
section
variable{P:Program}{w:World}{H H':Hp}{h h':Heap}{a C dx:Addr}{fs fs':List (Str × V)}
theorem y9o(hok:HOk P w H h)(e:H a=some (.ins C dx fs)):∃mA,ObjM h a dx C mA∧(∀f,VM (fs.lookup f) (mA f))∧PySem.Within mA (fs.map (·.1))∧fs.length≤1000∧H dx=some (.own a):=by
 obtain⟨d,z,ne,ob,mA,n,r,q⟩:=(show yR P w H h a (.ins C dx fs) from hok a _ e)
 exact⟨mA,⟨ob,n,ne⟩,r,q,z,d⟩
end
structure Cls (K:yc3) (C:Addr):Prop where
 pg:yj0 K C Str.empty=true
 hd:PySem.W.hasDictIn K C=true
 po:PySem.W.plainOver K C=true
 sa:yds K (.ref C) "__setattr__" =some (some (.builtin "object.__setattr__"))
theorem Cls.get{K:yc3}{C:Addr}(c:Cls K C)(f:Str):yj0 K C f=true:=c.pg
section
variable{X:Cx}{pins:List (Addr × Obj)}{σ:St}{H:Hp}{s:Shared}{a C dx:Addr}{fs:List (Str × V)}{f:Str}{v:V}{A:Around}{E:Value→Shared→Prop}
end
section
variable{X:Cx}{o e value:Expr}{f:Str}{pos pos' tpos:Pos}{ta tv:TE}
end
section
variable{X:Cx}{pins:List (Addr × Obj)}{σ:St}{H:Hp}{s:Shared}{A:Around}{E:Value→Shared→Prop}{Q:Value→Shared→Prop}{c:Value}{b:Bool}
inductive TyOf (K:yc3) (H:Hp):V→Value→Prop where
 | non:TyOf K H .non (.type "NoneType")
 | bl (x:Bool):TyOf K H (.bl x) (.type "bool")
 | int (i:Int):TyOf K H (.int i) (.type "int")
 | str (x:Str):TyOf K H (.str x) (.type "str")
 | flt (x:UInt64):TyOf K H (.flt x) (.type "float")
 | lst {a:Addr} {xs:List V} (e:H a=some (.lst xs)):TyOf K H (.ref a) (.type "list")
 | frz {a:Addr} {o:Obj} {xs:List V} (e:H a=some (.frz o (.lst xs))):TyOf K H (.ref a) (.type "list")
 | tup {a:Addr} {xs:List V} (e:H a=some (.tup xs)):TyOf K H (.ref a) (.type "tuple")
 | dK {a:Addr} {kvs:List (Key × V)} (e:H a=some (.dK kvs)):TyOf K H (.ref a) (.type "dict")
 | dT {a:Addr} {kvs:List (List Key × V)} (e:H a=some (.dT kvs)):TyOf K H (.ref a) (.type "dict")
 | ins {a C dx:Addr} {fs:List (Str × V)} (e:H a=some (.ins C dx fs)) (cl:Cls K C) (ha:yds K (.ref C) "__class__" =some (some (.builtin "object.__class__")))
   (hn:yga K (.builtin "object.__class__") "__get__" =some (some (.builtin "getset_descriptor.__get__"))) (htk:ygq K (.builtin "object.__class__")=some true)
   (hm:yeb K C (.type "object")=some true):TyOf K H (.ref a) (.ref C)
theorem y3h{x:V}{u t:Value}(I:Inv X pins σ H s)(rx:yH x u)(ty:TyOf X.K H x t)(e:yd7 X.K t c=some b)(h:∀tk,Q (.bool b) {s with toks:=tk}) :
  wpAny (model X.prog X.w) A (call (.builtin "isinstance") [u,c]) Q E s:=by
 cases ty with
 | non=>cases (show u=Value.none from rx); exact ye5 PySem.W.kitx_none I.kIn True.intro e (fun z=>nomatch z) h
 | bl y=>cases (show u=Value.bool y from rx); exact ye5 PySem.W.kitx_bool I.kIn True.intro e (fun z=>nomatch z) h
 | int i=>obtain⟨t,q⟩:=(show ∃t,u=Value.int i t from rx); cases q; exact ye5 PySem.W.kitx_int I.kIn True.intro e (fun z=>nomatch z) h
 | str y=>obtain⟨t,q⟩:=(show ∃t,u=Value.str y t from rx); cases q; exact ye5 PySem.W.kitx_str I.kIn True.intro e (fun z=>nomatch z) h
 | flt y=>obtain⟨t,q⟩:=(show ∃t,u=Value.float y t from rx); cases q; exact ye5 PySem.W.kitx_float I.kIn True.intro e (fun z=>nomatch z) h
 | @lst a xs ea=>
  cases (show u=Value.ref a from rx)
  obtain⟨_,_,n,_,h1⟩:=(show yR X.prog X.w H s.heap a (.lst xs) from I.hok a _ ea)
  exact ye5 yiy I.kIn ⟨_,h1,rfl⟩ e (fun z=>nomatch z) h
 | @frz a ob xs ea=>
  cases (show u=Value.ref a from rx)
  obtain⟨_,_,_,n,_,h1⟩:=(show yR X.prog X.w H s.heap a (.frz ob (.lst xs)) from I.hok a _ ea)
  exact ye5 yiy I.kIn ⟨_,h1,rfl⟩ e (fun z=>nomatch z) h
 | @tup a xs ea=>
  cases (show u=Value.ref a from rx)
  obtain⟨_,_,_,p⟩:=(show yR X.prog X.w H s.heap a (.tup xs) from I.hok a _ ea)
  obtain⟨o,h1,h2,_⟩:=p
  exact ye5 PySem.W.kitx_tuple I.kIn ⟨o,h1,h2⟩ e (fun z=>nomatch z) h
 | @dK a kvs ea=>
  cases (show u=Value.ref a from rx)
  obtain⟨_,_,vs,_,p⟩:=(show yR X.prog X.w H s.heap a (.dK kvs) from I.hok a _ ea)
  obtain⟨o,es,ep,h1,h2,_⟩:=p
  exact ye5 yiz I.kIn ⟨o,h1,h2.1⟩ e (fun z=>nomatch z) h
 | @dT a kvs ea=>
  cases (show u=Value.ref a from rx)
  obtain⟨_,_,xs,_,o,es,ep,h1,h2,_⟩:=(show yR X.prog X.w H s.heap a (.dT kvs) from I.hok a _ ea)
  exact ye5 yiz I.kIn ⟨o,h1,h2.1⟩ e (fun z=>nomatch z) h
 | @ins a C dx fs ea cl ha hn htk hm=>
  cases (show u=Value.ref a from rx)
  obtain⟨mA,O,_⟩:=y9o I.hok ea
  obtain⟨od,J,_⟩:=O.look
  exact ye5 (PySem.W.kitx_own (cl.get _) cl.hd ha hn htk hm) I.kIn J e (fun z=>nomatch z) h
end
end L2
namespace L2
open PySem PySem.Spec PyProof.Rows
structure Room (k:Nat) (A:Around):Prop where
 hd:A.handled=none
 dp:A.depth + 3 * k + 5 < recursionLimit
 un:A.units + 16 * k + 200 < cLine
theorem Room.mono{j k:Nat}{A:Around}(r:Room k A)(h:j≤k):Room j A:=⟨r.hd,by have:=r.dp; omega,by have:=r.un; omega⟩
theorem Room.deeper{k:Nat}{A:Around}(r:Room (k + 1) A)(env:Env):Room k (A.deeper env):=
 ⟨r.hd,by have:=r.dp; show A.depth + 1 + 3 * k + 5 < _; omega,by have:=r.un; show A.units + 3 + 16 * k + 200 < _; omega⟩
theorem Room.depth{k:Nat}{A:Around}(r:Room k A):A.depth < recursionLimit:=by have:=r.dp; omega
theorem Room.units{k:Nat}{A:Around}(r:Room k A):A.units + 64 < cLine:=by have:=r.un; omega
def tNil:TA:=fun _ H Q=>Q [] H
def ML(ta:TE)(tr:TA):TA:=fun σ H Q=>ta σ H fun x H1=>tr σ H1 fun xs H2=>Q (x :: xs) H2
section
variable{X:Cx}{e:Expr}{es:List Expr}{te:TE}{t:TA}{pos:Pos}
theorem y3:PA X [] tNil:=fun _ _ _ _ H Q I h=>Calls.spliced_nil ⟨[],H,I, .nil,h⟩
theorem y0(ha:PE X e te)(hr:PA X es t)(hs:starEach (e :: es) X.env=(false,eval e X.env) :: starEach es X.env:=by rfl):PA X (e :: es) (ML te t):=by
 intro pos pins s σ H Q I h
 rw [hs]
 show wpAny _ _ (spliced ((false,eval e X.env) :: backTo pos (starEach es X.env))) _ _ s
 refine Calls.spliced_cons (thn (ha pins s σ H _ I h) fun u s1 ⟨x,H1,I1,r1,q1⟩=> ?_)
 exact thn (hr pos pins s1 σ H1 _ I1 q1) fun us s2 ⟨xs,H2,I2,r2,q2⟩=>⟨x :: xs,H2,I2, .cons r1 r2,q2⟩
def tTup(t:TA):TE:=fun σ H Q=>t σ H fun xs H1=>xs.length≤sizeLine∧∀p,H1 p=none→Q (.ref p) (upd H1 p (.tup xs))
def tLst(t:TA):TE:=fun σ H Q=>t σ H fun xs H1=>xs.length≤sizeLine∧∀p,H1 p=none→Q (.ref p) (upd H1 p (.lst xs))
theorem J4{x1}(h:PA X es t):PE X (.Tuple es x1 pos) (tTup t):=by
 intro pins s σ H Q I hq
 refine wpAny_Tuple_spliced (thn (h pos pins s σ H _ I hq) fun us s1 ⟨xs,H1,I1,r,z,q⟩=>⟨by rw [←r.length]; exact z, ?_⟩)
 have hf:H1 s1.heap.objs.size=none:=I1.hok.fresh (yc6 _)
 refine⟨.ref s1.heap.objs.size,upd H1 s1.heap.objs.size (.tup xs),I1.laid (t':=s1.toks) (fun b u e=>Heap.get?_push_of_some _ e) (yc6 _) ?_,rfl,q _ hf⟩
 exact⟨z,us,r,⟨_,Heap.get?_push_size _ rfl,rfl,_,rfl⟩⟩
theorem yZ(h:PA X es t):PE X (.List es pos) (tLst t):=by
 intro pins s σ H Q I hq
 refine wpAny_List_spliced (thn (h pos pins s σ H _ I hq) fun us s1 ⟨xs,H1,I1,r,z,q⟩=>⟨by rw [←r.length]; exact z, ?_⟩)
 have hf:H1 s1.heap.objs.size=none:=I1.hok.fresh (yc6 _)
 refine⟨.ref s1.heap.objs.size,upd H1 s1.heap.objs.size (.lst xs),I1.laid (t':=s1.toks) (fun b u e=>Heap.get?_push_of_some _ e) (yc6 _) ?_,rfl,q _ hf⟩
 exact⟨z,us,0,r,Heap.get?_push_size _ rfl⟩
end
abbrev Sp:=List V→Hp→VK→XK→Prop
abbrev CXT:=List Env→Hp→Shared→XK→Value→Shared→Prop
structure Env0 (P:Program) (w:World) (K:yc3) (mg:Str→Option Value) (base:Heap) (A:Around) (outer:List Env) (s:Shared) (H:Hp):Prop where
 frames:A.frames=some outer
 mod:Mod K mg base
 bs:∀b o,base.get? b=some o→s.heap.get? b=some o∧H b=none
 bsz:base.objs.size≤s.heap.objs.size
 funs:s.heap.FunFrames base outer
 frf:∀b ∈ frs outer,H b=none
 hok:HOk P w H s.heap
 bare:AllBare s.gens
def CE(outer:List Env)(P:Program)(w:World)(H:Hp)(s:Shared)(Q:VK)(u:Value)(s':Shared):Prop:=
 ∃v H',s'.os=s.os∧AllBare s'.gens∧Un (frs outer) [] H H' s.heap s'.heap∧HOk P w H' s'.heap∧yH v u∧Q v H'
def CR(CX:CXT)(outer:List Env)(P:Program)(w:World)(H:Hp)(s:Shared)(Q:VK)(E:XK)(r:Result)(s':Shared):Prop:=
 match r with
 | .ok (.ret u)=>CE outer P w H s Q u s'
 | .ok _=>False
 | .error e=>CX outer H s E e s'
structure FnOk (P:Program) (w:World) (K:yc3) (mg:Str→Option Value) (base:Heap) (CX:CXT) (k:Nat) (f:Addr) (fd:FuncData) (ps:List Str) (sp:Sp):Prop where
 len:∀vs H Q E,sp vs H Q E→vs.length=ps.length
 run:∀(A:Around) (outer:List Env) (s:Shared) (H:Hp) (args:Args) (us:List Value) (vs:List V) (Q:VK) (E:XK),Room k A→Env0 P w K mg base A outer s H→BindsTo s fd args (ps.zip us)→yz vs us→sp vs H Q E→
  codeAny (model P w) A (.call (.ref f) args) (CR CX outer P w H s Q E) s
section
variable{X:Cx}{pins:List (Addr × Obj)}{σ:St}{H:Hp}{s s':Shared}
theorem Inv.env0(I:Inv X pins σ H s):Env0 X.prog X.w X.K X.mg X.base X.A X.stack s H:=
 ⟨I.ok.frames,I.ok.mod,I.bs,ydw I.ok.bsz I.sz,I.stack,I.stkFree,I.hok,I.bare⟩
theorem Inv.after{Q:VK}{u:Value}(I:Inv X pins σ H s)(h:CE X.stack X.prog X.w H s Q u s'):EP X pins σ Q u s':=by
 obtain⟨v,H',os,bare,un,hok,r,q⟩:=h
 obtain⟨hh,g,d,t,os'⟩:=s'
 obtain rfl:os'=s.os:=os
 exact⟨v,H',I.call (h':=hh) (g':=g) (d':=d) (t':=t) (ch:= []) un hok bare (fun b z=>absurd z (by simp)),r,q⟩
end
def y84(sp:Sp)(dvs:List V)(E:XK)(t:TA):TE:=fun σ H Q=>t σ H fun vs H1=>sp (vs ++ dvs) H1 Q E
def Lu(K:yc3)(fd:FuncData)(ps:List Str)(ds:List Value):Prop:=
 ∀(s:Shared) (us:List Value),K.In s.heap→(us ++ ds).length=ps.length→BindsTo s fd ⟨us, []⟩ (ps.zip (us ++ ds))
theorem Lu.all{K:yc3}{fd:FuncData}{ps:List Str}(h:∀us:List Value,us.length=ps.length→bindArgs fd ⟨us, []⟩=pure (ps.zip us)):Lu K fd ps []:=fun s us _ hl=>by
 rw [ye0] at hl ⊢
 exact .of_eq (h us hl)
def QW(CX:CXT)(X:Cx)(E:XK):Prop:=∀(pins:List (Addr × Obj)) (σ:St) (H:Hp) (s:Shared) (e:Value) (s':Shared),Inv X pins σ H s→CX X.stack H s E e s'→X.xe e s'
section
variable{X:Cx}{CX:CXT}{k:Nat}{f C:Addr}{fd:FuncData}{ps:List Str}{sp:Sp}{dvs:List V}{ds:List Value}{E:XK}{x m:Str}{p pos apos:Pos}{e o:Expr}{es:List Expr}{ta:TE}{t:TA}
theorem yau{pins:List (Addr × Obj)}{σ:St}{H:Hp}{s:Shared}{Q:VK}{us:List Value}{vs:List V}(F:FnOk X.prog X.w X.K X.mg X.base CX k f fd ps sp)(hr:Room k X.A)(hb:Lu X.K fd ps ds)(hd:yz dvs ds)(hx:QW CX X E)
  (I:Inv X pins σ H s) (r:yz vs us) (h:sp (vs ++ dvs) H Q E):wpAny (model X.prog X.w) X.A (call (.ref f) us) (EP X pins σ Q) X.xe s:=by
 have r2:yz (vs ++ dvs) (us ++ ds):=r.append hd
 have hl:(us ++ ds).length=ps.length:=by rw [←r2.length]; exact F.len _ _ _ _ h
 refine wpAny_call (codeAny_mono (F.run X.A X.stack s H ⟨us, []⟩ (us ++ ds) (vs ++ dvs) Q E hr I.env0 (hb s us I.kIn hl) r2 h) fun r s' hq=> ?_)
 cases r with
 | error e=>exact hx pins σ H s e s' I hq
 | ok fl=>
  cases fl with
  | ret u=>exact I.after hq
  | next=>exact False.elim hq
  | brk=>exact False.elim hq
  | cont=>exact False.elim hq
theorem yd(F:FnOk X.prog X.w X.K X.mg X.base CX k f fd ps sp)(hr:Room k X.A)(hg:Gl X x)(hm:X.mg x=some (.ref f))(hk:yck X.K (.ref f)=true)(hb:Lu X.K fd ps ds)(hd:yz dvs ds)(hx:QW CX X E)
  (ha:PA X (e :: es) t) (hdb:(x == ("__debug__" :Str))=false:=by decide) (he:starEach (e :: es) X.env=(false,eval e X.env) :: starEach es X.env:=by rfl) (hpl:(backTo pos (starEach es X.env)).any (·.1)=false:=by rfl) :
  PE X (.Call (.Name x p) (e :: es) [] pos) (y84 sp dvs E t):=by
 intro pins s σ H Q I h
 refine wpAny_Call_Name_kw (Mi I hg hm ?_ hdb)
 refine ygz (h₀:=X.base) I.ok.mod.kin hk (thn (ha pos pins s σ H _ I h) fun us s1 ⟨vs,H1,I1,r,q⟩=>⟨I1.kIn, ?_⟩) he hpl
 exact yau F hr hb hd hx I1 r q
end
section
variable{X:Cx}{CX:CXT}{k:Nat}{f C:Addr}{fd:FuncData}{ps ks:List Str}{sp:Sp}{E:XK}{x m:Str}{p pos apos kpos:Pos}{e o:Expr}{es:List Expr}{kws:List Keyword}{te ta:TE}{t tk:TA}{nm:Option Str}
variable{g:List Value→List Value→List Value}{gV:List V→List V→List V}
end
structure FnScope (N P:List Str) (sc:Scope):Prop where
 kind:sc.kind= .function
 co:sc.isCoroutine=false
 gen:sc.isGenerator=false
 nd:N.Nodup
 pre:N.take P.length=P
 par:∀x ∈ P,sc.names.lookup x=some .local∨sc.names.lookup x=some .cell
 nofree:∀y ∈ sc.names,y.2 ≠ .free
theorem xN{kindOf:Str→Option NameKind}{x:Str}:∀{binds:List (Str × Value)} {m:Str→Option Value},(∀v,(x,v) ∉ binds)→bindL kindOf binds m x=m x
 | [],_,_=>rfl
 | (n,v) :: r,m,h=>by
  unfold bindL
  rw [xN fun w hw=>h w (yc9 _ hw)]
  split
  ·have:x ≠ n:=by rintro rfl; exact h v yc8
   simp [this]
  ·rfl
theorem xJ{kindOf:Str→Option NameKind}{x:Str}:∀{binds:List (Str × Value)} {m:Str→Option Value},(∀v,(x,v) ∉ binds)→bindC kindOf binds m x=m x
 | [],_,_=>rfl
 | (n,v) :: r,m,h=>by
  unfold bindC
  rw [xJ fun w hw=>h w (yc9 _ hw)]
  split
  ·rfl
  ·have:x ≠ n:=by rintro rfl; exact h v yc8
   simp [this]
theorem qY{kindOf:Str→Option NameKind}{x:Str}{v:Value}:∀{P:List Str} {vs:List Value} {i:Nat} {m:Str→Option Value},P.Nodup→P[i]? =some x→vs[i]? =some v→kindOf x=some .local→
  bindL kindOf (P.zip vs) m x=some v
 | [],_,_,_,_,h,_,_=>by simp at h
 | _ :: _, [],_,_,_,_,h,_=>by simp at h
 | p :: P,w :: vs,0,m,nd,h1,h2,hk=>by
  simp at h1 h2; subst h1; subst h2
  show bindL kindOf ((p,w) :: P.zip vs) m p=_
  unfold bindL
  rw [xN fun v hv=>(ydk.mp nd).1 (yhx hv).1,if_pos hk]
  simp
 | p :: P,w :: vs,i + 1,m,nd,h1,h2,hk=>by
  show bindL kindOf ((p,w) :: P.zip vs) m x=_
  unfold bindL
  exact qY (i:=i) (ydk.mp nd).2 (by simpa using h1) (by simpa using h2) hk
theorem x5{kindOf:Str→Option NameKind}{x:Str}{v:Value}:∀{P:List Str} {vs:List Value} {i:Nat} {m:Str→Option Value},P.Nodup→P[i]? =some x→vs[i]? =some v→kindOf x ≠ some .local→
  bindC kindOf (P.zip vs) m x=some v
 | [],_,_,_,_,h,_,_=>by simp at h
 | _ :: _, [],_,_,_,_,h,_=>by simp at h
 | p :: P,w :: vs,0,m,nd,h1,h2,hk=>by
  simp at h1 h2; subst h1; subst h2
  show bindC kindOf ((p,w) :: P.zip vs) m p=_
  unfold bindC
  rw [xJ fun v hv=>(ydk.mp nd).1 (yhx hv).1,if_neg hk]
  simp
 | p :: P,w :: vs,i + 1,m,nd,h1,h2,hk=>by
  show bindC kindOf ((p,w) :: P.zip vs) m x=_
  unfold bindC
  exact x5 (i:=i) (ydk.mp nd).2 (by simpa using h1) (by simpa using h2) hk
def start(N:List Str)(vs:List V):St:=vs.map some ++ ycz (N.length - vs.length) none
def JU(CX:CXT)(P:Program)(w:World)(K:yc3)(mg:Str→Option Value)(base:Heap)(N:List Str)(qual:Str)(scope:Scope)(f:Addr)(cd:Value)(A:Around)(outer:List Env)(s:Shared)(H:Hp)(E:XK):Cx where
 prog:=P
 w:=w
 K:=K
 mg:=mg
 base:=base
 A:=A.deeper (envOfC qual scope s.heap.objs.size f cd)
 N:=N
 s₀:=s
 H₀:=H
 env:=envOfC qual scope s.heap.objs.size f cd
 outer:=outer
 stack:=envOfC qual scope s.heap.objs.size f cd :: outer
 ex:= []
 calm:=true
 fn:=fun _=>true
 pn:= []
 xe:=fun e s'=>wpAny (model P w) (A.deeper (envOfC qual scope s.heap.objs.size f cd)) (leaving (envOfC qual scope s.heap.objs.size f cd) e) (fun _ s''=>CX outer H s E e s'') (fun e' s''=>CX outer H s E e' s'') s'
theorem zG{sc:Scope}{n:Nat}{x:Str}(h:sc.names.lookup x=some .cell):∃c,(cellsFrom n sc.names []).lookup x=some c:=by
 have q:=yhy sc.names n [] (.inl h)
 exact yg6.mp q
theorem y2y{CX:CXT}{P:Program}{w:World}{K:yc3}{mg:Str→Option Value}{base:Heap}{N ps:List Str}{qual:Str}{scope:Scope}{f:Addr}{cd:Value}{A:Around}{outer:List Env}{s s1:Shared}{H:Hp}{E:XK}{us:List Value}{vs:List V}
  (S:FnScope N ps scope) (hd:A.handled=none) (e0:Env0 P w K mg base A outer s H) (hl:vs.length=ps.length) (r:yz vs us)
  (x:InCallC s s.heap.objs.size (bindL (envOfC qual scope s.heap.objs.size f cd).kindOf (ps.zip us) fun _=>none) (cellsFrom (s.heap.objs.size + 1) scope.names []) (bindC (envOfC qual scope s.heap.objs.size f cd).kindOf (ps.zip us) fun _=>none) s1) :
  Inv (JU CX P w K mg base N qual scope f cd A outer s H E) [] (start N vs) H s1:=by
 have hpl:ps.length≤N.length:=by have:=congrArg ygg S.pre; rw [yd4] at this; omega
 obtain⟨h1,tk,rfl,hk⟩:=x.done
 have noA:∀b:Addr,b ∉ (JU CX P w K mg base N qual scope f cd A outer s H E).ex:=fun b z=>absurd (show b ∈ ([]:List Addr) from z) (by simp)
 refine⟨⟨e0.mod,S.kind,rfl,rfl,yc6 _,fun y z c h1 h2=> ?_,fun y hy=> ?_,fun y c _ h=> ?_,fun _=>hd,Around.frames_deeper e0.frames, .inr ⟨rfl,rfl⟩,fun b z=>absurd z (noA b),e0.bs,e0.bsz,fun b _ _=>noA b,fun b z=>absurd z (noA b),e0.funs,e0.frf⟩,
  rfl,e0.bare,Un.kept hk,⟨_,x.toInCall.ns,fun i y v h1 h2 h3=> ?_⟩,fun y c h=>⟨_,x.cell y c h⟩,e0.hok.fresh (yc6 _),fun y c h=> ?_,fun p hp=>absurd (show p ∈ ([]:List (Addr × Obj)) from hp) (by simp),e0.hok.kept hk, ?_⟩
 ·exact name_of_addr x.apart (PySem.mem_of_lookup h1) (PySem.mem_of_lookup h2)
 ·have hy:scope.names.lookup y=some .cell∨scope.names.lookup y=some .free:=hy
  rcases hy with hy | hy
  ·exact zG hy
  ·exact absurd rfl (S.nofree _ (PySem.mem_of_lookup hy))
 ·exact yed (x.above y c (PySem.mem_of_lookup h))
 ·have hi:i < vs.length:=by
   unfold start at h2
   by_cases hi:i < vs.length
   ·exact hi
   ·rw [ydz (by simpa using hi)] at h2
    rw [List.getElem?_replicate] at h2
    split at h2 <;> cases h2
  have ha:vs[i]? =some v:=by
   unfold start at h2
   rw [ycu (by simpa using hi),yca] at h2
   cases e:vs[i]? with
   | none=>rw [e] at h2; cases h2
   | some a=>rw [e] at h2; cases h2; rfl
  obtain⟨u,hu,rv⟩:=r.get ha
  have hp:ps[i]? =some y:=by
   rw [←S.pre,yhe (by omega)]; exact h1
  have ndP:ps.Nodup:=by rw [←S.pre]; exact S.nd.sublist (List.take_sublist _ _)
  refine⟨u,rv, ?_⟩
  rcases S.par y (yce hp) with k | k
  ·exact .inl ⟨k,qY ndP hp hu k⟩
  ·obtain⟨c,e⟩:=zG (n:=s.heap.objs.size + 1) k
   refine .inr ⟨.inl k,c,e, ?_⟩
   have q:=x.cell y c e
   rw [x5 ndP hp hu (by show scope.names.lookup y ≠ _; rw [k]; decide)] at q
   exact q
 ·exact e0.hok.fresh (yed (x.above y c (PySem.mem_of_lookup h)))
 ·unfold start
  show _=N.length
  rw [ycr,yc2,yfu]
  omega
theorem zn{CX:CXT}{P:Program}{w:World}{K:yc3}{mg:Str→Option Value}{base:Heap}{k:Nat}{f:Addr}{name qual:Str}{params:Arguments}{body:List Stmt}{scope:Scope}{dV kV doc pm cdv ct oc:Value}{an od:Option Addr}
  {osl:Array (Option Value)} {N ps:List Str} {sp:Sp} (lk:K.lookup f=some ⟨oc,od, .func (ycq name qual params body scope dV kV doc pm an cdv ct),osl⟩) (hcd:ycl K cdv qual=true) (S:FnScope N ps scope)
  (len:∀vs H Q E,sp vs H Q E→vs.length=ps.length)
  (hbody:∀(A:Around) (outer:List Env) (s:Shared) (H:Hp) (vs:List V) (Q:VK) (E:XK),Room k (A.deeper (envOfC qual scope s.heap.objs.size f cdv))→sp vs H Q E→
   ∃t,PSs (JU CX P w K mg base N qual scope f cdv A outer s H E) body t∧t {nx:=fun _ H'=>Q .non H',rt:=Q} (start N vs) H) :
  FnOk P w K mg base CX (k + 1) f (ycq name qual params body scope dV kV doc pm an cdv ct) ps sp:=by
 refine⟨len,fun A outer s H args us vs Q E hr e0 hb r hsp=> ?_⟩
 have hl:=len _ _ _ _ hsp
 have KX:K.In s.heap:=e0.mod.kin.keeps fun b o e=>(e0.bs b o e).1
 have lim:s.heap.NoLimit:=e0.mod.nolimit.keeps fun b o e=>(e0.bs b o e).1
 have hkind:∀y ∈ ps.zip us,scope.names.lookup y.1=some .local∨(scope.names.lookup y.1=some .cell∧((cellsFrom (s.heap.objs.size + 1) scope.names []).lookup y.1).isSome=true):=fun⟨n,v⟩ hy=>by
  rcases S.par n (yhx hy).1 with q | q
  ·exact .inl q
  ·exact .inr ⟨q,yhy _ _ _ (.inl q)⟩
 refine codeAny_call_function hr.depth (KX _ _ lk) rfl S.co S.gen rfl (PySem.W.codeRec_of KX hcd) (hb _ _ _ _ ?_)
 refine wpAny_newFunctionEnv_cells S.kind hkind fun env he s1 x=> ?_
 subst he
 refine⟨lim.keeps x.toInCall.keep,codeAny_func ?_⟩
 obtain⟨t,ht,hq⟩:=hbody A outer s H vs Q E (hr.deeper _) hsp
 have I:Inv (JU CX P w K mg base N qual scope f cdv A outer s H E) [] (start N vs) H s1:=y2y S hr.hd e0 hl r x
 refine wpAny_mono (ht [] s1 (start N vs) H _ I hq) (fun fl s' hs=> ?_) fun e s' hs=>hs
 have fin:∀{σ':St} {H':Hp} {v:V} {u:Value},Inv (JU CX P w K mg base N qual scope f cdv A outer s H E) [] σ' H' s'→yH v u→Q v H'→CE outer P w H s Q u s':=
  fun {σ' H' v u} J rv q=>⟨v,H',J.os,J.bare,J.base,J.hok,rv,q⟩
 cases fl with
 | ret u=>
  obtain⟨v,σ',H',J,rv,q⟩:=hs
  exact fin J rv q
 | next=>
  obtain⟨σ',H',J,q⟩:=hs
  exact fin (v:=V.non) (u:=Value.none) J rfl q
 | brk=>
  obtain⟨_,_,_,q⟩:=hs
  exact False.elim q
 | cont=>
  obtain⟨_,_,_,q⟩:=hs
  exact False.elim q
end L2
namespace L2
open PySem PySem.Spec PyProof.Rows
section
variable{X:Cx}{x:Str}{p pos:Pos}{e:Expr}{es:List Expr}{t:TA}{id T:String}{r:List V→Hp→VK→Prop}
def tCB(r:List V→Hp→VK→Prop)(t:TA):TE:=fun σ H Q=>t σ H fun vs H1=>r vs H1 Q
theorem yC(hc:Jd X (.builtin id) r)(hg:Gl X x)(hm:X.mg x=none)(hv:bootBuiltins x=some (.builtin id))(ha:PA X (e :: es) t)(hn:x ≠ "__name__":=by decide)(hdb:(x == ("__debug__" :Str))=false:=by decide)
  (he:starEach (e :: es) X.env=(false,eval e X.env) :: starEach es X.env:=by rfl) (hpl:(backTo pos (starEach es X.env)).any (·.1)=false:=by rfl):PE X (.Call (.Name x p) (e :: es) [] pos) (tCB r t):=by
 intro pins s σ H Q I h
 refine wpAny_Call_Name_kw (JP I hg hm hv ?_ hn hdb)
 exact PyProof.Rows.callWith_builtin1 (thn (ha pos pins s σ H _ I h) fun us s1 ⟨vs,H1,I1,r1,q1⟩=>hc pins s1 σ H1 vs us Q I1 r1 q1) he hpl
theorem Jj(hc:Jd X (.type T) r)(hg:Gl X x)(hm:X.mg x=none)(hv:bootBuiltins x=some (.type T))(ha:PA X (e :: es) t)(hn:x ≠ "__name__":=by decide)(hdb:(x == ("__debug__" :Str))=false:=by decide)
  (he:starEach (e :: es) X.env=(false,eval e X.env) :: starEach es X.env:=by rfl) (hpl:(backTo pos (starEach es X.env)).any (·.1)=false:=by rfl):PE X (.Call (.Name x p) (e :: es) [] pos) (tCB r t):=by
 intro pins s σ H Q I h
 refine wpAny_Call_Name_kw (JP I hg hm hv ?_ hn hdb)
 exact PyProof.Rows.callWith_type1 (thn (ha pos pins s σ H _ I h) fun us s1 ⟨vs,H1,I1,r1,q1⟩=>hc pins s1 σ H1 vs us Q I1 r1 q1) he hpl
end
end L2
namespace HT
open PySem PyProof.Rows
section
open PySem.SeqAt
open PySem.AutoSeq1 (wpAny_loadPart')
open PySem.MeetsSeq PySem.MeetsSeq2 PySem.MeetsSeq3
end
section
variable{prog:Program}{w:World}{A:Around}{E:Value→Shared→Prop}{s:Shared}
def sIx(n d:Nat):Option Int→Nat
 | none=>d
 | some v=>if v < 0 then(v + (n:Int)).toNat else min v.toNat n
theorem sIx_nat(n d k:Nat):sIx n d (some (k:Int))=min k n:=by
 show(if (k:Int) < 0 then((k:Int) + (n:Int)).toNat else min (k:Int).toNat n)=min k n
 rw [if_neg (by omega),ydm]
end
end HT
namespace L2
open PySem PySem.Spec PyProof.Rows
abbrev TO:=St→Hp→(Option Int→Hp→Prop)→Prop
def PO(X:Cx)(e:Option Expr)(t:TO):Prop:=
 ∀(pins:List (Addr × Obj)) (s:Shared) (σ:St) (H:Hp) (Q:Option Int→Hp→Prop),Inv X pins σ H s→t σ H Q→
  wpAny (model X.prog X.w) X.A (evalPart e X.env) (fun u s'=>∃o H',Inv X pins σ H' s'∧IsPart u o∧Q o H') X.xe s
def yab:TO:=fun _ H Q=>Q none H
def tPart(t:TE):TO:=fun σ H Q=>t σ H fun x H1=>∃i,x= .int i∧Q (some i) H1
theorem y2q{ns:List Int}:∀{us:List Value},yz (ns.map V.int) us→IntsAre us ns:=by
 induction ns with
 | nil=>intro us r; rw [yfg] at r; cases r; exact .nil
 | cons n ns ih=>
  intro us r
  rw [ycv] at r
  cases r with
  | cons r1 r2=>
   obtain⟨t,e⟩:=r1
   subst e
   exact .cons n t (ih r2)
section
variable{X:Cx}{e:Expr}{te:TE}{lo hi:Option Expr}{tl th:TO}{pos p2:Pos}
theorem ZJ:PO X none yab:=by
 intro pins s σ H Q I h
 rw [evalPart_none]
 exact wpAny_pure ⟨none,H,I, .none,h⟩
theorem LD(h:PE X e te):PO X (some e) (tPart te):=by
 intro pins s σ H Q I hw
 rw [evalPart_some]
 refine thn (h pins s σ H _ I hw) fun u s1 ⟨x,H1,I1,r1,q1⟩=> ?_
 obtain⟨i,rfl,q⟩:=q1
 obtain⟨t,rfl⟩:=r1
 exact⟨some i,H1,I1, .int i t,q⟩
def SlR(X:Cx)(r:V→Option Int→Option Int→Hp→VK→Prop):Prop:=
 ∀(pins:List (Addr × Obj)) (s:Shared) (σ:St) (H:Hp) (x:V) (v vl vu:Value) (lo hi:Option Int) (sl:Addr) (Q:VK),Inv X pins σ H s→yH x v→s.heap.IsSliceOf sl vl vu .none→IsPart vl lo→IsPart vu hi→r x lo hi H Q→
  ∃T id,typeLookup (.type T) "__getitem__" =pure (some (.builtin id))∧s.TypeIs v T∧wpAny (model X.prog X.w) X.A (getItem v (.ref sl)) (EP X pins σ Q) X.xe s
def tSl(r:V→Option Int→Option Int→Hp→VK→Prop)(te:TE)(tl th:TO):TE:=fun σ H Q=>te σ H fun x H1=>tl σ H1 fun l H2=>th σ H2 fun u H3=>r x l u H3 Q
theorem LO{r:V→Option Int→Option Int→Hp→VK→Prop}(hr:SlR X r)(he:PE X e te)(hl:PO X lo tl)(hu:PO X hi th):PE X (.Subscript e (.Slice lo hi none p2) pos) (tSl r te tl th):=by
 intro pins s σ H Q I h
 refine Subscript_ (thn (he pins s σ H _ I h) fun v s1 ⟨x,H1,I1,r1,q1⟩=> ?_)
 refine wpAny_Slice (thn (hl pins s1 σ H1 _ I1 q1) fun vl s2 ⟨l,H2,I2,pl,q2⟩=>thn (hu pins s2 σ H2 _ I2 q2) fun vu s3 ⟨u,H3,I3,pu,q3⟩=> ?_)
 rw [evalPart_none]
 refine wpAny_pure ?_
 have I4:Inv X pins σ H3 {s3 with heap:=s3.heap.push {cls:= .type "slice",data:= .fields #[vl,vu, .none]}}:=I3.kept (t':=s3.toks) fun b ob q=>Heap.get?_push_of_some _ q
 obtain⟨T,id,hT,ht,hg⟩:=hr pins {s3 with heap:=s3.heap.push {cls:= .type "slice",data:= .fields #[vl,vu, .none]}} σ H3 x v vl vu l u s3.heap.objs.size Q I4 r1 (Heap.IsSliceOf.new ..) pl pu q3
 show wpAny (model X.prog X.w) X.A (subscriptTail e (.Slice lo hi none p2) v (.ref s3.heap.objs.size)) (EP X pins σ Q) X.xe {s3 with heap:=s3.heap.push {cls:= .type "slice",data:= .fields #[vl,vu, .none]}}
 exact tail_any (ops:= [.ref s3.heap.objs.size,v]) ht hT hg (by with_unfolding_all rfl)
def V7(xs:List V)(lo hi:Option Int):List V:=(xs.drop (HT.sIx xs.length 0 lo)).take (HT.sIx xs.length xs.length hi - HT.sIx xs.length 0 lo)
theorem y0g(xs:List V)(lo hi:Option Int):(V7 xs lo hi).length≤xs.length:=by
 unfold V7
 rw [yd4,ydt]
 omega
end
end L2
namespace L2
open PySem PySem.Spec PyProof.Rows
def ixN(n:Nat)(i:Int):Option Nat:=if 0≤i then(if i < n then some i.toNat else none) else if -(n:Int)≤i then some (i + n).toNat else none
def atI{α:Type}(xs:List α)(i:Int):Option α:=(ixN xs.length i).bind fun j=>xs[j]?
theorem y1h{n:Nat}{i:Int}{j:Nat}(h:ixN n i=some j):seqIndex? i n=some j∧j < n∧ -(n:Int)≤i∧i < n:=by
 unfold ixN at h
 by_cases h0:0≤i
 ·rw [if_pos h0] at h
  by_cases h1:i < n
  ·rw [if_pos h1] at h
   have e:i.toNat=j:=Option.some.inj h
   exact⟨by rw [seqIndex_of h0 h1,e],by omega,by omega,h1⟩
  ·rw [if_neg h1] at h; cases h
 ·rw [if_neg h0] at h
  by_cases h1: -(n:Int)≤i
  ·rw [if_pos h1] at h
   have e:(i + n).toNat=j:=Option.some.inj h
   exact⟨by rw [seqIndex_neg (by omega) h1,e],by omega,h1,by omega⟩
  ·rw [if_neg h1] at h; cases h
theorem y0k{α:Type}{xs:List α}{i:Int}{v:α}(h:atI xs i=some v):∃j,seqIndex? i xs.length=some j∧xs[j]? =some v∧j < xs.length∧ -(xs.length:Int)≤i∧i < xs.length:=by
 unfold atI at h
 cases e:ixN xs.length i with
 | none=>rw [e] at h; cases h
 | some j=>
  rw [e] at h
  obtain⟨h1,h2,h3,h4⟩:=y1h e
  exact⟨j,h1,h,h2,h3,h4⟩
theorem JF{α:Type}{xs:List α}{j:Nat}{v:α}(h:xs[j]? =some v):atI xs (j:Int)=some v:=by
 have hj:j < xs.length:=(yc5.mp h).1
 have e:ixN xs.length (j:Int)=some j:=by
  unfold ixN
  rw [if_pos (by omega),if_pos (by omega)]; simp
 unfold atI; rw [e]; exact h
theorem y7j{α:Type}(xs:List α)(v:α):atI (xs ++ [v]) (-1)=some v:=by
 have hl:(xs ++ [v]).length=xs.length + 1:=by simp
 have e:ixN (xs ++ [v]).length (-1)=some xs.length:=by
  unfold ixN
  rw [hl,if_neg (by decide),if_pos (by omega)]
  congr 1
  omega
 unfold atI
 rw [e]
 show(xs ++ [v])[xs.length]? =some v
 simp
def y8w(b:Expr):Prop:=∀o i,subscripted b false o i=operate [o,i] (getItem o i)
def IxR(X:Cx)(r:R2):Prop:=
 ∀(value slice:Expr) (pins:List (Addr × Obj)) (s:Shared) (σ:St) (H:Hp) (x y:V) (v u:Value) (Q:VK),Inv X pins σ H s→yH x v→yH y u→r x y H Q→
  subscripted slice false v u=operate [v,u] (getItem v u)→wpAny (model X.prog X.w) X.A (subscriptTail value slice v u) (EP X pins σ Q) X.xe s
def MtR(X:Cx)(id:String)(r:V→List V→Hp→VK→Prop):Prop:=
 ∀(pins:List (Addr × Obj)) (s:Shared) (σ:St) (H:Hp) (x:V) (xs:List V) (v:Value) (us:List Value) (Q:VK),Inv X pins σ H s→yH x v→yz xs us→r x xs H Q→
  wpAny (model X.prog X.w) X.A (call (.builtin id) (v :: us)) (EP X pins σ Q) X.xe s
section
variable{X:Cx}{a b:Expr}{ta tb:TE}{pos:Pos}
theorem yq{r:R2}(hr:IxR X r)(ha:PE X a ta)(hb:PE X b tb)(hs:y8w b):PE X (.Subscript a b pos) (tOp r ta tb):=by
 intro pins s σ H Q I h
 exact Subscript_ (binT ha hb I h fun v u s2 x y H2 I2 rx ry q=>hr a b pins s2 σ H2 x y v u Q I2 rx ry q (hs _ _))
def rIxL(K:yc3):R2:=fun x y H Q=>∃p xs i v,x= .ref p∧y= .int i∧SqL K H p xs∧atI xs i=some v∧Q v H
def Qm(K:yc3):R2:=fun x y H Q=>∃p xs i v,x= .ref p∧y= .int i∧SqT K H p xs∧atI xs i=some v∧Q v H
theorem yS:IxR X (rIxL X.K):=by
 intro value slice pins s σ H x y v u Q I rx ry h hs
 obtain⟨p,xs,i,z,rfl,rfl,hq,he,q⟩:=h
 cases rx
 obtain⟨t,rfl⟩:=ry
 obtain⟨its,r,pl,hz⟩:=I.list hq
 obtain⟨j,h1,h2,h3,h4,h5⟩:=y0k he
 obtain⟨w,ew,rw'⟩:=r.get h2
 have hl:=r.length
 have hn:=Mp
 have fin:EP X pins σ Q w s:=⟨z,H,I,rw',q⟩
 by_cases h0:0≤i
 ·have hj:i.toNat=j:=by
   rw [seqIndex_of h0 h5] at h1
   exact Option.some.inj h1
  exact item_listR pl.isList h0 (by omega) (by rw [hj]; simpa using ew) fin hs
 ·have hj:(i + (its.toArray.size:Int)).toNat=j:=by
   rw [seqIndex_neg (by omega) h4] at h1
   rw [yc7,←hl]
   exact Option.some.inj h1
  exact subscriptTail_builtinR (x:=w) pl.isList.typeIs slot_list_getitem.lookup
   (wpAny_getItem_list_neg (Q:=fun r s'=>r=w∧EP X pins σ Q r s') pl.isList (by omega) (by rw [yc7] <;> omega) (by omega) (by rw [hj]; simpa using ew) ⟨rfl,fin⟩) hs
theorem Yy:IxR X (Qm X.K):=by
 intro value slice pins s σ H x y v u Q I rx ry h hs
 obtain⟨p,xs,i,z,rfl,rfl,hq,he,q⟩:=h
 cases rx
 obtain⟨t,rfl⟩:=ry
 obtain⟨its,r,pl,hz⟩:=I.tuple hq
 obtain⟨j,h1,h2,h3,h4,h5⟩:=y0k he
 obtain⟨w,ew,rw'⟩:=r.get h2
 have hl:=r.length
 have hn:=Mp
 have fin:EP X pins σ Q w s:=⟨z,H,I,rw',q⟩
 exact subscriptTail_builtinR (x:=w) pl.typeIs slot_tuple_getitem.lookup
  (getItem_tuple (j:=j) (Q:=fun r s'=>r=w∧EP X pins σ Q r s') pl (by omega) (by omega) (by rw [yc7,←hl]; exact h1) (by simpa using ew) ⟨rfl,fin⟩) hs
theorem y23(its:List Value)(n j:Nat)(u:Value):Obj.mapSeq (·.setIfInBounds j u) {cls:= .type "list",data:= .seq its.toArray n}={cls:= .type "list",data:= .seq (its.set j u).toArray n}:=by
 simp [Obj.mapSeq]
theorem Inv.lst{pins:List (Addr × Obj)}{σ:St}{H:Hp}{s:Shared}{p:Addr}{xs:List V}(I:Inv X pins σ H s)(h:H p=some (.lst xs)) :
  ∃(its:List Value) (n:Nat),yz xs its∧s.heap.get? p=some {cls:= .type "list",data:= .seq its.toArray n}∧xs.length≤sizeLine:=by
 obtain⟨z,its,n,r,e⟩:=I.hok p _ h
 exact⟨its,n,r,e,z⟩
theorem Inv.lstUpd{pins:List (Addr × Obj)}{σ:St}{H:Hp}{s:Shared}{p:Addr}{xs ys:List V}{its its':List Value}{n n':Nat}{f:Obj→Obj}(I:Inv X pins σ H s)(h:H p=some (.lst xs))
  (ho:s.heap.get? p=some {cls:= .type "list",data:= .seq its.toArray n}) (hf:f {cls:= .type "list",data:= .seq its.toArray n}={cls:= .type "list",data:= .seq its'.toArray n'}) (r:yz ys its') (hz:ys.length≤sizeLine) (t:Nat) :
  Inv X pins σ (upd H p (.lst ys)) {s with heap:=s.heap.update p f,toks:=t}:=by
 have e:(s.heap.update p f).get? p=some {cls:= .type "list",data:= .seq its'.toArray n'}:=by
  rw [Heap.get?_update_self f ho (by rw [hf] <;> rfl),hf]
 refine I.write (x:=p) (e:=p) (by rw [h]; trivial) (.inl rfl) (fun b u hb q=>(Heap.get?_update_other _ _ (Ne.symm hb)).trans q) ⟨_,e⟩ ?_
 exact⟨hz,its',n',r,e⟩
def rSetL:V→V→V→Hp→(Hp→Prop)→Prop:=fun o i v H Q=>∃p xs k j,o= .ref p∧i= .int k∧H p=some (.lst xs)∧ixN xs.length k=some j∧Q (upd H p (.lst (xs.set j v)))
theorem Qx:PSet X rSetL:=by
 intro pins s σ H o i v ov iv u Q I ro ri rv h
 obtain⟨p,xs,k,j,rfl,rfl,hp,hj,q⟩:=h
 cases ro
 obtain⟨t,rfl⟩:=ri
 obtain⟨its,n,r,ho,hz⟩:=I.lst hp
 obtain⟨h1,h2,h3,h4⟩:=y1h hj
 have hl:=r.length
 have hn:=Mp
 have I':Inv X pins σ (upd H p (.lst (xs.set j v))) {s with heap:=s.heap.update p (Obj.mapSeq (·.setIfInBounds j u))}:=
  I.lstUpd hp ho (y23 its n j u) (r.set rv j) (by rw [yfn]; exact hz) s.toks
 by_cases h0:0≤k
 ·have hk:k.toNat=j:=by
   rw [seqIndex_of h0 h4] at h1
   exact Option.some.inj h1
  exact PySem.W.ki_setAt ho h0 (by omega) (by rw [yc7,←hl]; exact h4) (by rw [hk]; exact⟨_,I',q⟩)
 ·have hk:(k + (its.toArray.size:Int)).toNat=j:=by
   rw [seqIndex_neg (by omega) h3] at h1
   rw [yc7,←hl]
   exact Option.some.inj h1
  exact PySem.W.ki_setBack ho (by omega) (by rw [yc7,←hl]; exact h3) (by omega) (by rw [hk]; exact⟨_,I',q⟩)
theorem WA(lo hi:Option Int)(n:Nat):(sliceBounds lo hi none n).1=((HT.sIx n 0 lo:Nat):Int)∧(sliceBounds lo hi none n).2.1=((HT.sIx n n hi:Nat):Int)∧(sliceBounds lo hi none n).2.2=1:=by
 refine⟨?_, ?_,rfl⟩
 ·cases lo with
  | none=>simp [sliceBounds,HT.sIx]
  | some i=>
   simp only [sliceBounds,HT.sIx,Option.getD_none,show(1:Int) > 0 by decide,if_true]
   by_cases h:i < 0
   ·simp only [h,if_true] <;> omega
   ·simp only [h,if_false] <;> omega
 ·cases hi with
  | none=>simp [sliceBounds,HT.sIx]
  | some i=>
   simp only [sliceBounds,HT.sIx,Option.getD_none,show(1:Int) > 0 by decide,if_true]
   by_cases h:i < 0
   ·simp only [h,if_true] <;> omega
   ·simp only [h,if_false] <;> omega
theorem xS(its:List Value)(lo hi:Option Int):slicePick its.toArray lo hi none=((its.drop (HT.sIx its.length 0 lo)).take (HT.sIx its.length its.length hi - HT.sIx its.length 0 lo)).toArray:=by
 obtain⟨h1,h2,h3⟩:=WA lo hi its.toArray.size
 unfold slicePick
 rw [h1,h2,h3]
 simp only [sliceRange_one,pick_run,yc7] <;> rfl
def rSlL(K:yc3):V→Option Int→Option Int→Hp→VK→Prop:=fun x lo hi H Q=>∃a xs,x= .ref a∧SqL K H a xs∧∀p,H p=none→Q (.ref p) (upd H p (.lst (V7 xs lo hi)))
theorem Mo:SlR X (rSlL X.K):=by
 intro pins s σ H x v vl vu lo hi sl Q I rx hs pl pu h
 obtain⟨a,xs,rfl,hx,q⟩:=h
 cases rx
 obtain⟨its,r,ht,hz⟩:=I.list hx
 have hlen:=r.length
 refine⟨"list",_,slot_list_getitem.lookup,ht.isList.typeIs, ?_⟩
 refine wpAny_getItem_list_slice ht.isList hs pl pu .none (by simp) ?_ (by rw [yc7] <;> omega)
 rw [xS,←hlen]
 refine⟨.ref s.heap.objs.size,_,I.laid (t':=s.toks) (o:= .lst (V7 xs lo hi)) (fun b ob q=>Heap.get?_push_of_some _ q) (yc6 _) ?_,rfl,q _ (I.hok.fresh (yc6 _))⟩
 exact⟨ydw (y0g xs lo hi) hz,_,0,(r.drop (HT.sIx xs.length 0 lo)).take (HT.sIx xs.length xs.length hi - HT.sIx xs.length 0 lo),Heap.get?_push_size _ rfl⟩
def Ln:V→Bool
 | .non=>true
 | .bl _=>true
 | .int _=>true
 | .str _=>true
 | _=>false
def eqV:V→V→Bool
 | .non, .non=>true
 | .bl a, .bl b=>a == b
 | .bl a, .int b=>(if a then 1 else 0) == b
 | .int a, .bl b=>a == (if b then 1 else 0)
 | .int a, .int b=>a == b
 | .str a, .str b=>a == b
 | _,_=>false
theorem ybx{A:Around}{s:Shared}{y x:V}{u v:Value}(ry:yH y u)(rx:yH x v)(fy:Ln y=true)(fx:Ln x=true):SeqAt.EqAt A s u v (eqV y x):=by
 cases y with
 | non=>
  cases ry
  cases x with
  | non=>cases rx; exact SeqAt.EqAt.same _
  | bl b=>cases rx; exact SeqAt.EqAt.none_bool b
  | int b=>obtain⟨t,rfl⟩:=rx; exact SeqAt.EqAt.none_int b t
  | str b=>obtain⟨t,rfl⟩:=rx; exact SeqAt.EqAt.none_str b t
  | _=>exact absurd (show false=true from fx) ycp
 | bl a=>
  cases ry
  cases x with
  | non=>cases rx; exact SeqAt.EqAt.bool_none a
  | bl b=>cases rx; exact SeqAt.EqAt.bool_bool a b
  | int b=>obtain⟨t,rfl⟩:=rx; exact SeqAt.EqAt.bool_int a b t
  | str b=>obtain⟨t,rfl⟩:=rx; exact SeqAt.EqAt.bool_str a b t
  | _=>exact absurd (show false=true from fx) ycp
 | int a=>
  obtain⟨t',rfl⟩:=ry
  cases x with
  | non=>cases rx; exact SeqAt.EqAt.int_none a t'
  | bl b=>cases rx; exact SeqAt.EqAt.int_bool a t' b
  | int b=>obtain⟨t,rfl⟩:=rx; exact SeqAt.EqAt.int_int a t' b t
  | str b=>obtain⟨t,rfl⟩:=rx; exact SeqAt.EqAt.int_str a t' b t
  | _=>exact absurd (show false=true from fx) ycp
 | str a=>
  obtain⟨t',rfl⟩:=ry
  cases x with
  | non=>cases rx; exact SeqAt.EqAt.str_none a t'
  | bl b=>cases rx; exact SeqAt.EqAt.str_bool a t' b
  | int b=>obtain⟨t,rfl⟩:=rx; exact SeqAt.EqAt.str_int a t' b t
  | str b=>obtain⟨t,rfl⟩:=rx; exact SeqAt.EqAt.str_str a t' b t
  | _=>exact absurd (show false=true from fx) ycp
 | _=>exact absurd (show false=true from fy) ycp
def eqU(x:V)(u:Value):Bool:=match u with
 | .none=>eqV .non x
 | .bool b=>eqV (.bl b) x
 | .int i _=>eqV (.int i) x
 | .str z _=>eqV (.str z) x
 | _=>false
theorem y2x{x y:V}{u:Value}(r:yH y u)(f:Ln y=true):eqU x u=eqV y x:=by
 cases y with
 | non=>cases r; rfl
 | bl b=>cases r; rfl
 | int i=>obtain⟨t,rfl⟩:=r; rfl
 | str z=>obtain⟨t,rfl⟩:=r; rfl
 | _=>exact absurd (show false=true from f) ycp
theorem Mj{x:V}:∀{xs:List V} {us:List Value},yz xs us→xs.all Ln=true→us.any (eqU x)=xs.any fun y=>eqV y x
 | _,_, .nil,_=>rfl
 | y :: xs,u :: us, .cons r t,f=>by
  rw [yim,yeo] at f
  rw [ygh,ygh,y2x r f.1,Mj t f.2]
theorem LX{A:Around}{s:Shared}{x:V}{v:Value}(rx:yH x v)(fx:Ln x=true):∀{xs:List V} {us:List Value},yz xs us→xs.all Ln=true→∀u ∈ us,SeqAt.EqAt A s u v (eqU x u)
 | _,_, .nil,_=>fun u hu=>by cases hu
 | y :: xs,u :: us, .cons r t,f=>fun u' hu=>by
  rw [yim,yeo] at f
  rcases ycg.mp hu with rfl | hu
  ·rw [y2x r f.1]; exact ybx r rx f.1 fx
  ·exact LX rx fx t f.2 u' hu
def inV(x:V)(xs:List V):Bool:=xs.any fun y=>eqV y x
def rIn(K:yc3)(neg:Bool):R2:=fun x y H Q=>∃p xs,y= .ref p∧(SqL K H p xs∨SqT K H p xs)∧Ln x=true∧xs.all Ln=true∧Q (.bl (if neg then !inV x xs else inV x xs)) H
theorem y4h:OpR X (compareOp .In) (rIn X.K false):=by
 intro pins s σ H x y v u Q I rx ry h
 obtain⟨p,xs,rfl,hq,fx,fs,q⟩:=h
 cases ry
 rcases hq with hq | hq
 ·obtain⟨its,r,pl,hz⟩:=I.list hq
  refine SeqAt.in_listAt (eqU x) pl.isList (fun w hw=>LX rx fx r fs w (by simpa using hw)) ⟨.bl _,H,I,rfl, ?_⟩
  rw [show its.toArray.any (eqU x)=its.any (eqU x) by simp,Mj r fs]
  exact q
 ·obtain⟨its,r,pl,hz⟩:=I.tuple hq
  refine SeqAt.in_tupleAt (eqU x) pl (fun w hw=>LX rx fx r fs w (by simpa using hw)) ⟨.bl _,H,I,rfl, ?_⟩
  rw [show its.toArray.any (eqU x)=its.any (eqU x) by simp,Mj r fs]
  exact q
theorem Wz:OpR X (compareOp .NotIn) (rIn X.K true):=by
 intro pins s σ H x y v u Q I rx ry h
 obtain⟨p,xs,rfl,hq,fx,fs,q⟩:=h
 cases ry
 rcases hq with hq | hq
 ·obtain⟨its,r,pl,hz⟩:=I.list hq
  refine SeqAt.notIn_listAt (eqU x) pl.isList (fun w hw=>LX rx fx r fs w (by simpa using hw)) ⟨.bl _,H,I,rfl, ?_⟩
  rw [show its.toArray.any (eqU x)=its.any (eqU x) by simp,Mj r fs]
  exact q
 ·obtain⟨its,r,pl,hz⟩:=I.tuple hq
  refine SeqAt.notIn_tupleAt (eqU x) pl (fun w hw=>LX rx fx r fs w (by simpa using hw)) ⟨.bl _,H,I,rfl, ?_⟩
  rw [show its.toArray.any (eqU x)=its.any (eqU x) by simp,Mj r fs]
  exact q
theorem yO:Jd X (.builtin "len") (fun xs H Q=>∃p ys,xs= [.ref p]∧(SqL X.K H p ys∨SqT X.K H p ys)∧Q (.int ys.length) H):=by
 intro pins s σ H xs us Q I r h
 obtain⟨p,ys,rfl,hq,q⟩:=h
 obtain⟨u,rfl,rx⟩:=jR r
 cases rx
 have hn:=Mp
 rcases hq with hq | hq
 ·obtain⟨its,r',pl,hz⟩:=I.list hq
  have hlen:=r'.length
  exact Calls.call_len_list pl.isList (by simp only [yc7] <;> omega) ⟨.int ys.length,H,I.tok _,⟨s.toks + 1,by rw [yc7,hlen]⟩,q⟩
 ·obtain⟨its,r',pl,hz⟩:=I.tuple hq
  have hlen:=r'.length
  exact len_tuple pl (by simp only [yc7] <;> omega) ⟨.int ys.length,H,I.tok _,⟨s.toks + 1,by rw [yc7,hlen]⟩,q⟩
theorem Wr:Jd X (.type "list") (fun xs H Q=>∃p ys,xs= [.ref p]∧(SqL X.K H p ys∨SqT X.K H p ys)∧∀l,H l=none→Q (.ref l) (upd H l (.lst ys))):=by
 intro pins s σ H xs us Q I r h
 obtain⟨p,ys,rfl,hq,q⟩:=h
 obtain⟨u,rfl,rx⟩:=jR r
 cases rx
 have fin:∀(its:List Value),yz ys its→ys.length≤sizeLine→∀(h':Heap) (c':Nat),(∀b o',s.heap.get? b=some o'→h'.get? b=some o')→
   h'.get? s.heap.objs.size=some {cls:= .type "list",dict:=none,data:= .seq its.toArray c',slots:=#[]}→EP X pins σ Q (.ref s.heap.objs.size) {s with heap:=h'}:=fun its r' hz h' c' kp e=>
  ⟨.ref s.heap.objs.size,_,I.laid (t':=s.toks) kp (yc6 _) (show yR X.prog X.w _ h' _ (.lst ys) from⟨hz,its,c',r',e⟩),rfl,q _ (I.hok.fresh (yc6 _))⟩
 rcases hq with hq | hq
 ·obtain⟨its,r',pl,hz⟩:=I.list hq
  have hlen:=r'.length
  obtain⟨o,ho,hc,n,hd⟩:=pl.isList
  exact call_list_seq p (.inl rfl) ho hc hd (fun h' c' kp e=>fin its r' hz h' c' kp e) (by simp only [yc7] <;> omega)
 ·obtain⟨its,r',pl,hz⟩:=I.tuple hq
  have hlen:=r'.length
  obtain⟨o,ho,hc,n,hd⟩:=pl
  exact call_list_seq p (.inr rfl) ho hc hd (fun h' c' kp e=>fin its r' hz h' c' kp e) (by simp only [yc7] <;> omega)
def tyV(K:yc3)(T:String)(x:V)(H:Hp):Prop:=match x with
 | .str _=>T="str"
 | .int _=>T="int"
 | .ref p=>(T="list"∧∃xs,SqL K H p xs)∨(T="tuple"∧∃o,K.lookup p=some o∧o.cls= .type "tuple"∧o.dict=none)∨
   (T="dict"∧((∃kvs,H p=some (.dK kvs))∨∃kvs,H p=some (.dT kvs)))∨(T="set"∧∃S n,H p=some (.set S n))
 | _=>False
theorem ybi{pins:List (Addr × Obj)}{σ:St}{H:Hp}{s:Shared}{T:String}{x:V}{v:Value}(I:Inv X pins σ H s)(r:yH x v)(ty:tyV X.K T x H) :
  s.TypeIs v T∧∀a,v= .ref a→∃ob,s.heap.get? a=some ob∧ob.dict=none:=by
 cases x with
 | str z=>
  obtain⟨t,rfl⟩:=r
  cases (show T="str" from ty)
  exact⟨typeIs_str s z t,fun _ e=>nomatch e⟩
 | int i=>
  obtain⟨t,rfl⟩:=r
  cases (show T="int" from ty)
  exact⟨typeIs_int s i t,fun _ e=>nomatch e⟩
 | ref p=>
  cases r
  rcases ty with⟨rfl,xs,hq⟩ | ⟨rfl,o,hk,hc,hd⟩ | ⟨rfl,hk⟩ | ⟨rfl,S,n,hk⟩
  ·obtain⟨its,_,pl,_⟩:=I.list hq
   refine⟨pl.isList.typeIs,fun a e=> ?_⟩
   cases e
   obtain⟨o,n,e,c,hd,_⟩:=pl
   exact⟨o,e,hd⟩
  ·refine⟨⟨o,I.kIn p o hk,hc⟩,fun a e=> ?_⟩
   cases e
   exact⟨o,I.kIn _ o hk,hd⟩
  ·have z:∃o,s.heap.get? p=some o∧o.ExactDict:=by
    rcases hk with⟨kvs,hk⟩ | ⟨kvs,hk⟩
    ·obtain⟨_,_,_,_,o,_,_,e,ex,_⟩:=I.hok p _ hk
     exact⟨o,e,ex⟩
    ·obtain⟨_,_,_,_,o,_,_,e,ex,_⟩:=I.hok p _ hk
     exact⟨o,e,ex⟩
   obtain⟨o,e,ex⟩:=z
   refine⟨⟨o,e,ex.1⟩,fun a e2=> ?_⟩
   cases e2
   exact⟨o,e,ex.2.1⟩
  ·obtain⟨o,_,_,_,e,ex,_⟩:=I.hok p _ hk
   refine⟨⟨o,e,ex.1⟩,fun a e2=> ?_⟩
   cases e2
   exact⟨o,e,ex.2.1⟩
 | _=>exact False.elim ty
def tBM(K:yc3)(T:String)(r:V→List V→Hp→VK→Prop)(to:TE)(t:TA):TE:=fun σ H Q=>to σ H fun x H1=>tyV K T x H1∧t σ H1 fun xs H2=>r x xs H2 Q
variable{o e:Expr}{es:List Expr}{to:TE}{t:TA}{name:Str}{apos cpos:Pos}{T id:String}{r:V→List V→Hp→VK→Prop}
theorem Ll(pa:PlainAttrs T)(slot:Slot T name id)(hty:typeOf (.builtin id)=pure (.type "method_descriptor"))(hm:MtR X id r)(ho:PE X o to)(ha:PA X (e :: es) t)
  (hbase:attributeBase o name X.env (eval o X.env)=eval o X.env:=by rfl)
  (hfew:((backTo cpos (starEach (e :: es) X.env)).all (fun x=> !x.1) && (backToKw cpos (keywordEach [] X.env)).all (fun x=>x.1.isSome)
   && decide ((e :: es).length + ([]:List Keyword).length + (if ([]:List Keyword).isEmpty then 0 else 1) < 30))=true:=by rfl)
  (hline:(apos.endLine == cpos.line)=true:=by rfl) (hs:starEach (e :: es) X.env=(false,eval e X.env) :: starEach es X.env:=by rfl) (hplain:(backTo cpos (starEach es X.env)).any (·.1)=false:=by rfl) :
  PE X (.Call (.Attribute o name apos) (e :: es) [] cpos) (tBM X.K T r to t):=by
 intro pins s σ H Q I h
 refine wpAny_Call_method_late hbase hfew hline rfl (thn (ho pins s σ H _ I h) fun v s1 ⟨x,H1,I1,r1,ty,q1⟩=> ?_)
 obtain⟨h1,h2⟩:=ybi I1 r1 ty
 refine⟨T,id,pa,slot,hty,h1,h2, ?_⟩
 have hA:=ha cpos pins s1 σ H1 _ I1 q1
 rw [hs] at hA ⊢
 refine Calls.callWith_builtin (by show(false || (backTo cpos (starEach es X.env)).any (·.1))=false; rw [hplain] <;> rfl) (Calls.evalArgs_plain ?_)
 exact thn hA fun us s2 ⟨vs,H2,I2,r2,q2⟩=>hm pins s2 σ H2 x vs v us Q I2 r1 r2 q2
end
end L2
namespace L2
open PySem PySem.Spec PyProof.Rows
def MtM(X:Cx)(id:String)(r:V→List V→Hp→VK→Prop):Prop:=
 ∀(pins:List (Addr × Obj)) (s:Shared) (σ:St) (H:Hp) (x:V) (xs:List V) (v:Value) (us:List Value) (Q:VK),Inv X pins σ H s→yH x v→yz xs us→r x xs H Q→
  wpAny (model X.prog X.w) X.A (call (.builtin id) (v :: us)) (EP X pins σ Q) X.xe s
theorem yz.one:∀{x:V} {us:List Value},yz [x] us→∃u,us= [u]∧yH x u
 | _,_, .cons r .nil=>⟨_,rfl,r⟩
theorem yz.rep{xs:List V}{us:List Value}(h:yz xs us):∀k:Nat,yz (ycz k xs).flatten (ycz k us).flatten
 | 0=> .nil
 | k + 1=>by
  rw [yff,yff,yec,yec]
  exact yz.append h (yz.rep h k)
theorem qZ(its:List Value):∀(k:Nat) (acc:List Value),
  List.foldl (fun x1 x2=>x1 ++ x2) acc.toArray (ycz k its.toArray)=(acc ++ (ycz k its).flatten).toArray
 | 0,acc=>by simp
 | k + 1,acc=>by
  have e:acc.toArray ++ its.toArray=(acc ++ its).toArray:=by simp
  have e2:(acc ++ its) ++ (ycz k its).flatten=acc ++ (ycz (k + 1) its).flatten:=by
   rw [yff,yec,yek]
  rw [←e2,←qZ its k (acc ++ its),←e,yff,yfo]
section
variable{X:Cx}{pins:List (Addr × Obj)}{σ:St}{H:Hp}{s:Shared}{l b:Addr}{xs ys zs:List V}
theorem Inv.lset{its its':List Value}{n:Nat}{f:Array Value→Array Value}{t':Nat}(I:Inv X pins σ H s)(hH:H l=some (.lst xs))
  (e:s.heap.get? l=some {cls:= .type "list",data:= .seq its.toArray n}) (hf:f its.toArray=its'.toArray) (hv:yz ys its') (hz:ys.length≤sizeLine) :
  Inv X pins σ (upd H l (.lst ys)) {s with heap:=s.heap.update l (Obj.mapSeq f),toks:=t'}:=by
 have q:=PySem.IsL.update e f
 rw [hf] at q
 refine I.write (x:=l) (e:=l) (by rw [hH]; exact trivial) (.inl rfl) (fun b' u hb hu=>(Heap.get?_update_other s.heap (Obj.mapSeq f) (Ne.symm hb)).trans hu) ⟨_,q⟩ ?_
 exact⟨hz,its',_,hv,q⟩
theorem Inv.lnew{its:List Value}{t':Nat}(I:Inv X pins σ H s)(hv:yz ys its)(hz:ys.length≤sizeLine) :
  Inv X pins σ (upd H s.heap.objs.size (.lst ys)) {s with heap:=s.heap.push {cls:= .type "list",data:= .seq its.toArray},toks:=t'}:=
 I.laid (fun _ _ q=>Heap.get?_push_of_some _ q) (yc6 _) ⟨hz,its,0,hv,Heap.get?_push_size _ rfl⟩
theorem Inv.fresh(I:Inv X pins σ H s):H s.heap.objs.size=none:=I.hok.fresh (yc6 _)
theorem Inv.lstM(I:Inv X pins σ H s)(hH:H l=some (.lst xs)):xs.length≤sizeLine∧∃(its:List Value) (n:Nat),yz xs its∧xs.length=its.length∧s.heap.get? l=some {cls:= .type "list",data:= .seq its.toArray n}:=by
 obtain⟨z,its,n,r,e⟩:=I.hok l _ hH
 exact⟨z,its,n,r,r.length,e⟩
theorem W9{n:Nat}(h:n≤sizeLine):Builtin.List.listTooLong n=false:=by
 unfold Builtin.List.listTooLong
 exact decide_eq_false (by omega)
end
section
variable{X:Cx}
def ya2:V→List V→Hp→VK→Prop:=fun x vs H Q=>∃l xs y,x= .ref l∧vs= [y]∧H l=some (.lst xs)∧xs.length < sizeLine∧Q .non (upd H l (.lst (xs ++ [y])))
theorem jL:MtM X "list.append" ya2:=by
 intro pins s σ H x vs v us Q I rx rv h
 obtain⟨l,xs,y,rfl,rfl,hH,hz,q⟩:=h
 cases rx
 obtain⟨u,rfl,ru⟩:=rv.one
 obtain⟨z,its,n,r,hl,e⟩:=I.lstM hH
 refine call_meets F.slot_list_append ⟨_,e,rfl⟩ F.entry_list_append (F.args_list_append_2 _ _) (PySem.list_append l its.toArray n u (by rw [yc7]; omega)) ⟨e, ?_⟩
 refine⟨.non,_,I.lset (its':=its ++ [u]) hH e (by simp) (r.append (.cons ru .nil)) ?_,rfl,q⟩
 rw [ycr,yd5]
 omega
def y8q:V→List V→Hp→VK→Prop:=fun x vs H Q=>∃l b xs zs,x= .ref l∧vs= [.ref b]∧H l=some (.lst xs)∧H b=some (.lst zs)∧xs.length + zs.length≤sizeLine∧Q .non (upd H l (.lst (xs ++ zs)))
theorem yc1:MtM X "list.extend" y8q:=by
 intro pins s σ H x vs v us Q I rx rv h
 obtain⟨l,b,xs,zs,rfl,rfl,hH,hB,hz,q⟩:=h
 cases rx
 obtain⟨u,rfl,ru⟩:=rv.one
 cases ru
 obtain⟨z,its,n,r,hl,e⟩:=I.lstM hH
 obtain⟨z2,its2,n2,r2,hl2,e2⟩:=I.lstM hB
 have hsz:its.toArray.size + its2.toArray.size≤sizeLine:=by rw [yc7,yc7]; omega
 have hlong:¬(!its.toArray.isEmpty && Builtin.List.listTooLong (its.toArray.size + its2.toArray.size))=true:=by
  rw [W9 hsz,yic]
  exact ycp
 refine call_meets F.slot_list_extend ⟨_,e,rfl⟩ F.entry_list_extend (F.args_list_extend_2 _ _)
  (AutoSeq1.list_extend_list_list_0 l its.toArray n b its2.toArray n2 hlong (by rw [yc7]; omega) (by omega)) ⟨e,e2, ?_⟩
 refine⟨.non,_,I.lset (its':=its ++ its2) hH e (by simp) (r.append r2) ?_,rfl,q⟩
 rw [ycr]
 omega
def rCat:R2:=fun x y H Q=>∃l b xs zs,x= .ref l∧y= .ref b∧H l=some (.lst xs)∧H b=some (.lst zs)∧xs.length + zs.length≤sizeLine∧∀p,H p=none→Q (.ref p) (upd H p (.lst (xs ++ zs)))
theorem WL:OpR X (binaryOp .Add) rCat:=by
 intro pins s σ H x y v u Q I rx ry h
 obtain⟨l,b,xs,zs,rfl,rfl,hH,hB,hz,q⟩:=h
 cases rx
 cases ry
 obtain⟨z,its,n,r,hl,e⟩:=I.lstM hH
 obtain⟨z2,its2,n2,r2,hl2,e2⟩:=I.lstM hB
 refine PySem.P.add_list e e2 ?_ (by rw [yc7,yc7]; omega)
 have ea:its.toArray ++ its2.toArray=(its ++ its2).toArray:=by simp
 rw [ea]
 exact⟨.ref _,_,I.lnew (t':=s.toks) (r.append r2) (by rw [ycr]; omega),rfl,q _ I.fresh⟩
def rRep:R2:=fun x y H Q=>∃l k xs,x= .ref l∧y= .int k∧H l=some (.lst xs)∧ -(2 ^ 63)≤k∧k < 2 ^ 63∧xs.length * k.toNat≤sizeLine∧
 ∀p,H p=none→Q (.ref p) (upd H p (.lst (ycz k.toNat xs).flatten))
theorem yah{α:Type}(xs:List α)(k:Nat):(ycz k xs).flatten.length=k * xs.length:=by
 induction k with
 | zero=>simp
 | succ k ih=>rw [yff,yec,ycr,ih,Nat.succ_mul,Nat.add_comm]
theorem y5q:OpR X (binaryOp .Mult) rRep:=by
 intro pins s σ H x y v u Q I rx ry h
 obtain⟨l,k,xs,rfl,rfl,hH,h1,h2,hz,q⟩:=h
 cases rx
 obtain⟨t,rfl⟩:=ry
 obtain⟨z,its,n,r,hl,e⟩:=I.lstM hH
 have hlen:its.toArray.size * k.toNat≤sizeLine:=by rw [yc7,←hl]; exact hz
 have hcap:¬its.toArray.size * k.toNat > (2 ^ 63 - 1) / 8:=by
  have:(sizeLine:Nat)≤(2 ^ 63 - 1) / 8:=by decide
  omega
 have hfit:¬(!Builtin.List.listFitsIndex k)=true:=by
  rw [fitsIndex_both h1 h2]
  exact ycp
 have hlong:¬Builtin.List.listTooLong (its.toArray.size * k.toNat)=true:=by
  rw [W9 hlen]
  exact ycp
 have hnew:List.foldl (fun x1 x2=>x1 ++ x2) #[] (ycz (if its.toArray.isEmpty=true then 0 else k.toNat) its.toArray)=(ycz k.toNat its).flatten.toArray:=by
  have f0:∀m:Nat,List.foldl (fun x1 x2=>x1 ++ x2) #[] (ycz m its.toArray)=(ycz m its).flatten.toArray:=fun m=>by
   have:=qZ its m []
   rw [List.nil_append] at this
   exact this
  rw [f0]
  cases its with
  | nil=>simp
  | cons a r'=>rw [if_neg (by simp)]
 refine wpAny_binaryOp_repeat_ref (T:="list") (U:="int") (by decide) ⟨_,e,rfl⟩ (fun s'=>typeIs_int s' k t) noFill_list_mul F.fills_int_mul F.slot_int_rmul repeat_list F.slot_int_index.lookup
  (call_meets F.slot_int_rmul (typeIs_int s k t) F.entry_int_rmul (F.args_int_rmul_2 _ _) (int___rmul___int_list k t l its.toArray n)
   ⟨e,rfl,⟨_,e,rfl⟩,call_meets F.slot_list_mul ⟨_,e,rfl⟩ F.entry_list_mul (F.args_list_mul_2 _ _) (AutoListH.list___mul___list_int_3 l its.toArray n k t hfit hcap hlong) ⟨e, ?_⟩⟩)
 rw [hnew]
 exact⟨.ref _,_,I.lnew (t':=s.toks) (r.rep k.toNat) (by rw [yah,Nat.mul_comm]; exact hz),rfl,q _ I.fresh⟩
end
section
variable{prog:Program}{w:World}{A:Around}{E:Value→Shared→Prop}{s:Shared}
end
section
variable{X:Cx}
end
end L2
namespace L2
open PySem PySem.Spec PyProof.Rows
section
variable{κ:Type}[DecidableEq κ]
def YM(kvs:List (κ × V))(k:κ):Option V:=(kvs.find? fun kv=>decide (kv.1=k)).map (·.2)
def J2(kvs:List (κ × V))(k:κ)(v:V):List (κ × V):=
 if (kvs.any fun kv=>decide (kv.1=k))=true then kvs.map (fun kv=>if kv.1=k then(kv.1,v) else kv) else kvs ++ [(k,v)]
theorem Qg{p:κ × V}{r:List (κ × V)}{k:κ}(e:p.1=k):YM (p :: r) k=some p.2:=by simp [YM,ye6,e]
theorem Qo{p:κ × V}{r:List (κ × V)}{k:κ}(e:¬p.1=k):YM (p :: r) k=YM r k:=by simp [YM,ye6,e]
theorem MZ(k:κ):∀kvs:List (κ × V),(kvs.any fun kv=>decide (kv.1=k))=(YM kvs k).isSome
 | []=>rfl
 | p :: r=>by
  rw [ygh]
  by_cases e:p.1=k
  ·simp only [Qg e,decide_eq_true e,Bool.true_or,yit]
  ·rw [Qo e,decide_eq_false e,Bool.false_or]; exact MZ k r
theorem VX(kvs:List (κ × V))(k:κ)(v:V):(J2 kvs k v).length≤kvs.length + 1:=by
 unfold J2
 split
 ·rw [yc2]; omega
 ·rw [ycr,yct,ygr]; omega
theorem ME{kvs:List (κ × V)}{k:κ}(v:V)(h:YM kvs k=none):J2 kvs k v=kvs ++ [(k,v)]:=by
 unfold J2
 rw [MZ,h]
 exact if_neg (by decide)
theorem VM.isSome_eq{o:Option V}{u:Option Value}(r:VM o u):o.isSome=u.isSome:=by
 cases o with
 | none=>cases u with
  | none=>rfl
  | some _=>exact(show False from r).elim
 | some _=>cases u with
  | none=>exact(show False from r).elim
  | some _=>rfl
theorem VM.getD{o:Option V}{u:Option Value}{d:V}{d':Value}(r:VM o u)(rd:yH d d'):yH (o.getD d) (u.getD d'):=by
 cases o with
 | none=>cases u with
  | none=>exact rd
  | some _=>exact(show False from r).elim
 | some _=>cases u with
  | none=>exact(show False from r).elim
  | some _=>exact r
theorem KV.val{kvs:List (κ × V)}{vs:List (κ × Value)}(r:KV kvs vs)(k:κ):VM (YM kvs k) (valueAt vs k):=by
 unfold KV at r
 induction r with
 | nil=>exact True.intro
 | @cons p q ps qs h t ih=>
  obtain⟨h1,h2⟩:=h
  by_cases e:p.1=k
  ·have e':q.1=k:=h1.symm.trans e
   have b:valueAt (q :: qs) k=some q.2:=by simp [valueAt,ye6,e']
   rw [Qg e,b]; exact h2
  ·have e':¬q.1=k:=fun z=>e (h1.trans z)
   have b:valueAt (q :: qs) k=valueAt qs k:=by simp [valueAt,ye6,e']
   rw [Qo e,b]; exact ih
theorem KV.any{kvs:List (κ × V)}{vs:List (κ × Value)}(r:KV kvs vs)(k:κ):(kvs.any fun kv=>decide (kv.1=k))=vs.any fun kv=>decide (kv.1=k):=by
 unfold KV at r
 induction r with
 | nil=>rfl
 | cons h t ih=>rw [ygh,ygh,ih,h.1]
theorem KV.repl{kvs:List (κ × V)}{vs:List (κ × Value)}(r:KV kvs vs)(k:κ){y:V}{u:Value}(ry:yH y u) :
  KV (kvs.map fun kv=>if kv.1=k then(kv.1,y) else kv) (vs.map fun kv=>if kv.1=k then(kv.1,u) else kv):=by
 unfold KV at r ⊢
 induction r with
 | nil=>exact .nil
 | @cons p q ps qs h t ih=>
  rw [ycv,ycv]
  refine .cons ?_ ih
  obtain⟨h1,h2⟩:=h
  by_cases e:p.1=k
  ·rw [if_pos e,if_pos (h1.symm.trans e)]; exact⟨h1,ry⟩
  ·rw [if_neg e,if_neg (fun z=>e (h1.trans z))]; exact⟨h1,h2⟩
theorem KV.put{kvs:List (κ × V)}{vs:List (κ × Value)}(r:KV kvs vs)(k:κ){y:V}{u:Value}(ry:yH y u):KV (J2 kvs k y) (stored vs k u):=by
 unfold J2 stored
 rw [r.any k]
 by_cases e:(vs.any fun kv=>decide (kv.1=k))=true
 ·rw [if_pos e,if_pos e]; exact r.repl k ry
 ·rw [if_neg e,if_neg e]; exact Paired.snoc r ⟨rfl,ry⟩
theorem KV.keys{kvs:List (κ × V)}{vs:List (κ × Value)}(r:KV kvs vs):kvs.map (·.1)=vs.map (·.1):=by
 unfold KV at r
 induction r with
 | nil=>rfl
 | cons h t ih=>rw [ycv,ycv,ih,h.1]
theorem KV.length{kvs:List (κ × V)}{vs:List (κ × Value)}(r:KV kvs vs):kvs.length=vs.length:=Paired.length r
end
theorem Lv{P:Program}{w:World}{k:Key}{u:Value}(r:yH (kV k) u):(yL P w).is k u=true:=by
 cases k with
 | inl i=>obtain⟨t,e⟩:=(show ∃t,u=Value.int i t from r); subst e; exact y0i P w i t
 | inr x=>obtain⟨t,e⟩:=(show ∃t,u=Value.str x t from r); subst e; exact y08 P w x t
theorem xL{P:Program}{w:World}:∀{ks:List Key} {us:List Value},yz (ks.map kV) us→ItemsAre (yL P w) ks us
 | [],_,r=>by rw [yfg] at r; cases r; exact .nil
 | k :: ks,_,r=>by
  rw [ycv] at r
  cases r with
  | cons h t=>exact .cons (Lv h) (xL t)
abbrev KT(H:Hp):List (List Key × V)→List (List Key × Addr × Value)→Prop:=Paired fun p q=>p.1=q.1∧H q.2.1=some (.tup (p.1.map kV))∧yH p.2 q.2.2
theorem KT.val{H:Hp}{kvs:List (List Key × V)}{xs:List (List Key × Addr × Value)}(r:KT H kvs xs)(k:List Key):VM (YM kvs k) ((atKey xs k).map (·.2)):=by
 induction r with
 | nil=>exact True.intro
 | @cons p q ps qs h t ih=>
  obtain⟨h1,_,h2⟩:=h
  by_cases e:p.1=k
  ·have e':q.1=k:=h1.symm.trans e
   have b:atKey (q :: qs) k=some q.2:=by simp [atKey,ye6,e']
   rw [Qg e,b]; exact h2
  ·have e':¬q.1=k:=fun z=>e (h1.trans z)
   have b:atKey (q :: qs) k=atKey qs k:=by simp [atKey,ye6,e']
   rw [Qo e,b]; exact ih
theorem KT.repl{H:Hp}{kvs:List (List Key × V)}{xs:List (List Key × Addr × Value)}(r:KT H kvs xs)(k:List Key){y:V}{u:Value}(ry:yH y u) :
  KT H (kvs.map fun kv=>if kv.1=k then(kv.1,y) else kv) (xs.map (putAt k u)):=by
 induction r with
 | nil=>exact .nil
 | @cons p q ps qs h t ih=>
  rw [ycv,ycv]
  refine .cons ?_ ih
  obtain⟨h1,h2,h3⟩:=h
  unfold putAt
  by_cases e:p.1=k
  ·rw [if_pos e,if_pos (h1.symm.trans e)]; exact⟨h1,h2,ry⟩
  ·rw [if_neg e,if_neg (fun z=>e (h1.trans z))]; exact⟨h1,h2,h3⟩
theorem KT.put{H:Hp}{kvs:List (List Key × V)}{xs:List (List Key × Addr × Value)}(r:KT H kvs xs)(k:List Key){b:Addr}{y:V}{u:Value}(hb:H b=some (.tup (k.map kV)))(ry:yH y u) :
  KT H (J2 kvs k y) (storedH xs k b u):=by
 have e:(kvs.any fun kv=>decide (kv.1=k))=(atKey xs k).isSome:=by
  rw [MZ,(r.val k).isSome_eq,yfv]
 unfold J2 storedH
 rw [e]
 by_cases q:(atKey xs k).isSome=true
 ·rw [if_pos q,if_pos q]; exact r.repl k ry
 ·rw [if_neg q,if_neg q]; exact Paired.snoc r ⟨rfl,hb,ry⟩
theorem KT.keeps{H H':Hp}{kvs:List (List Key × V)}{xs:List (List Key × Addr × Value)}(r:KT H kvs xs)(ht:∀b ys,H b=some (.tup ys)→H' b=some (.tup ys)):KT H' kvs xs:=
 Paired.mapP r fun _ _ z=>⟨z.1,ht _ _ z.2.1,z.2.2⟩
section
variable{P:Program}{w:World}{H:Hp}{h:Heap}{a:Addr}
theorem y86{u:HO}(ok:HOk P w H h)(e:Rd H a u):yR P w H h a u:=e.ok ok
theorem My{kvs:List (Key × V)}(ok:HOk P w H h)(e:Rd H a (.dK kvs)):kvs.length≤sizeLine∧(a == sysModules)=false∧∃vs,KV kvs vs∧h.DictOf (yL P w) a vs:=
 show yR P w H h a (.dK kvs) from y86 ok e
theorem ZT{kvs:List (Key × V)}(ok:HOk P w H h)(e:H a=some (.dK kvs)):kvs.length≤sizeLine∧(a == sysModules)=false∧∃vs,KV kvs vs∧h.DictOf (yL P w) a vs:=My ok (.inl e)
theorem Mv{ks:List Key}(ok:HOk P w H h)(e:H a=some (.tup (ks.map kV))):(tupleKind (yL P w)).is h ks a:=by
 obtain⟨_,its,r,o,h1,h2,n,h3⟩:=(show yR P w H h a (.tup (ks.map kV)) from ok a _ e)
 exact⟨o,its.toArray,n,h1,h2,h3,by simpa using xL r⟩
theorem MD{kvs:List (List Key × V)}(ok:HOk P w H h)(e:Rd H a (.dT kvs)):kvs.length≤sizeLine∧(a == sysModules)=false∧
  ∃xs,KT H kvs xs∧h.DictOfH (tupleKind (yL P w)) a xs:=by
 obtain⟨z,y,xs,r,o,es,ep,h1,h2,h3,h4,h5⟩:=(show yR P w H h a (.dT kvs) from y86 ok e)
 refine⟨z,y,xs,r,o,es,ep,h1,h2,h3,h4,fun x hx=> ?_,h5⟩
 have all:∀{l:List (List Key × V)} {m:List (List Key × Addr × Value)},KT H l m→∀x ∈ m,(tupleKind (yL P w)).is h x.1 x.2.1:=by
  intro l m q
  induction q with
  | nil=>intro x hx; exact nomatch hx
  | @cons p q ps qs hq t ih=>
   intro x hx
   rcases ycg.mp hx with e | hx
   ·subst e
    exact Mv ok (by rw [←hq.1]; exact hq.2.1)
   ·exact ih x hx
 exact all r x hx
theorem dt_of{kvs:List (List Key × V)}(ok:HOk P w H h)(e:H a=some (.dT kvs)):kvs.length≤sizeLine∧(a == sysModules)=false∧
  ∃xs,KT H kvs xs∧h.DictOfH (tupleKind (yL P w)) a xs:=MD ok (.inl e)
end
def JC(H:Hp)(a:Addr)(y:V)(r:Option V):Prop:=
 (∃kvs k,Rd H a (.dK kvs)∧y=kV k∧r=YM kvs k)∨∃kvs k b,Rd H a (.dT kvs)∧y= .ref b∧H b=some (.tup (k.map kV))∧r=YM kvs k
def zU(H:Hp)(a:Addr)(y v:V)(H':Hp):Prop:=
 (∃kvs k,H a=some (.dK kvs)∧y=kV k∧kvs.length < sizeLine∧H'=upd H a (.dK (J2 kvs k v)))∨
 ∃kvs k b,H a=some (.dT kvs)∧y= .ref b∧H b=some (.tup (k.map kV))∧kvs.length < sizeLine∧H'=upd H a (.dT (J2 kvs k v))
theorem JC.k{H:Hp}{a:Addr}{kvs:List (Key × V)}{k:Key}(e:H a=some (.dK kvs)):JC H a (kV k) (YM kvs k):= .inl ⟨kvs,k, .inl e,rfl,rfl⟩
theorem zU.k{H:Hp}{a:Addr}{kvs:List (Key × V)}{k:Key}{v:V}(e:H a=some (.dK kvs))(hl:kvs.length < sizeLine):zU H a (kV k) v (upd H a (.dK (J2 kvs k v))):= .inl ⟨kvs,k,e,rfl,hl,rfl⟩
section
variable{X:Cx}{pins:List (Addr × Obj)}{σ:St}{H:Hp}{s:Shared}{a:Addr}{y v:V}{u r:Value}{o:Option V}{A:Around}{E:Value→Shared→Prop}
theorem Inv.big(I:Inv X pins σ H s):sysModules < s.heap.objs.size:=by
 have h:mainGlobals < s.heap.objs.size:=(I.mod.glob.keeps I.bk).lt
 exact ye1 (by decide) h
theorem y4a{Q:Value→Shared→Prop}(hu:A.units + 1 < cLine)(I:Inv X pins σ H s)(g:JC H a y (some v))(ry:yH y u)(h:∀w' s',Inv X pins σ H s'→yH v w'→Q w' s') :
  wpAny (model X.prog X.w) A (getItem (.ref a) u) Q E s:=by
 rcases g with⟨kvs,k,e,ey,l⟩ | ⟨kvs,k,b,e,ey,eb,l⟩
 ·subst ey
  obtain⟨z,hd,vs,rel,dd⟩:=My I.hok e
  obtain⟨w',hw,rw'⟩:=VM.some_of (v:=v) (o:=valueAt vs k) (by rw [l]; exact rel.val k)
  exact wpAny_getItem_of (Lv ry) dd.mapOf hw (h w' _ (I.tok _) rw')
 ·subst ey
  cases (show u=Value.ref b from ry)
  obtain⟨z,hd,xs,rel,dd⟩:=MD I.hok e
  obtain⟨w',hw,rw'⟩:=VM.some_of (v:=v) (o:=(atKey xs k).map (·.2)) (by rw [l]; exact rel.val k)
  obtain⟨p,hp,hp2⟩:=yhz.mp hw
  refine wpAny_getItem_heap (tupleKind_room_in1 hu) (Mv I.hok eb) dd hp ?_
  rw [hp2]
  exact h w' _ (I.tok _) rw'
theorem d_in{Q:Value→Shared→Prop}(hu:A.units + 1 < cLine)(I:Inv X pins σ H s)(g:JC H a y o)(ry:yH y u)(h:∀s',Inv X pins σ H s'→Q (.bool o.isSome) s') :
  wpAny (model X.prog X.w) A (compareOp .In u (.ref a)) Q E s:=by
 rcases g with⟨kvs,k,e,ey,l⟩ | ⟨kvs,k,b,e,ey,eb,l⟩
 ·subst ey
  obtain⟨z,hd,vs,rel,dd⟩:=My I.hok e
  refine wpAny_in_of (Lv ry) hd dd.mapOf ?_
  rw [←(rel.val k).isSome_eq,←l]
  exact h _ (I.tok _)
 ·subst ey
  cases (show u=Value.ref b from ry)
  obtain⟨z,hd,xs,rel,dd⟩:=MD I.hok e
  refine wpAny_in_heap (tupleKind_room_in1 hu) (Mv I.hok eb) hd dd ?_
  have q:=(rel.val k).isSome_eq
  rw [yfv] at q
  rw [←q,←l]
  exact h _ (I.tok _)
theorem y92{Q:Value→Shared→Prop}(hu:A.units + 1 < cLine)(I:Inv X pins σ H s)(g:JC H a y o)(ry:yH y u)(h:∀s',Inv X pins σ H s'→Q (.bool (!o.isSome)) s') :
  wpAny (model X.prog X.w) A (compareOp .NotIn u (.ref a)) Q E s:=by
 rcases g with⟨kvs,k,e,ey,l⟩ | ⟨kvs,k,b,e,ey,eb,l⟩
 ·subst ey
  obtain⟨z,hd,vs,rel,dd⟩:=My I.hok e
  refine wpAny_notIn_of (Lv ry) hd dd.mapOf ?_
  rw [←(rel.val k).isSome_eq,←l]
  exact h _ (I.tok _)
 ·subst ey
  cases (show u=Value.ref b from ry)
  obtain⟨z,hd,xs,rel,dd⟩:=MD I.hok e
  refine wpAny_notIn_heap (tupleKind_room_in1 hu) (Mv I.hok eb) hd dd ?_
  have q:=(rel.val k).isSome_eq
  rw [yfv] at q
  rw [←q,←l]
  exact h _ (I.tok _)
theorem ZW{h':Heap}{t':Nat}{ob:HO}(I:Inv X pins σ H s)(mu:Mut (H a))(hs:Heap.SameBut a s.heap h')(he:∃q,h'.get? a=some q)(new:yR X.prog X.w (upd H a ob) h' a ob) :
  Inv X pins σ (upd H a ob) {s with heap:=h',toks:=t'}:=
 I.write (x:=a) (e:=a) mu (.inl rfl) (fun b q hb z=>(hs.2 b hb).trans z) he new
theorem W6{P:Program}{w:World}{H':Hp}{h':Heap}{kvs:List (Key × V)}{vs:List (Key × Value)}(z:kvs.length≤sizeLine)(hd:(a == sysModules)=false)(rel:KV kvs vs)(dd:h'.DictOf (yL P w) a vs) :
  yR P w H' h' a (.dK kvs):=⟨z,hd,vs,rel,dd⟩
theorem y5b{H':Hp}{Q:Unit→Shared→Prop}(hu:A.units + 1 < cLine)(I:Inv X pins σ H s)(g:zU H a y v H')(ry:yH y u)(rv:yH v r)(h:∀s',Inv X pins σ H' s'→Q () s') :
  wpAny (model X.prog X.w) A (setItem (.ref a) u r) Q E s:=by
 rcases g with⟨kvs,k,e,ey,l,eH⟩ | ⟨kvs,k,b,e,ey,eb,l,eH⟩
 ·subst ey eH
  obtain⟨z,hd,vs,rel,dd⟩:=ZT I.hok e
  have hz:vs.length≤sizeLine:=by rw [←rel.length]; exact z
  have hl:(J2 kvs k v).length≤sizeLine:=by have:=VX kvs k v; omega
  refine wpAny_setItem_pairs (hsz:=hz) (Lv ry) dd fun h' dd' hs=>h _ ?_
  have he:∃q,h'.get? a=some q:=let ⟨q,_,_,hq,_⟩:=dd'; ⟨q,hq⟩
  exact ZW I (by rw [e]; exact True.intro) hs he (W6 hl hd (rel.put k rv) dd')
 ·subst ey eH
  cases (show u=Value.ref b from ry)
  obtain⟨z,hd,xs,rel,dd⟩:=dt_of I.hok e
  have hz:xs.length≤sizeLine:=by rw [←Paired.length rel]; exact z
  have hl:(J2 kvs k v).length≤sizeLine:=by have:=VX kvs k v; omega
  refine wpAny_setItem_heap (hsz:=hz) (tupleKind_room_in1 hu) (Mv I.hok eb) dd fun h' dd' hs=>h _ ?_
  obtain⟨q,es,ep,hq,h2,h3,h4,_,h5⟩:=dd'
  refine ZW I (by rw [e]; exact True.intro) hs ⟨q,hq⟩ ⟨hl,hd,_,(rel.put k eb rv).keeps fun c ys ec=> ?_,q,es,ep,hq,h2,h3,h4,h5⟩
  rw [yi (M5 ec e (fun z=>nomatch z))]
  exact ec
end
section
variable{X:Cx}{pins:List (Addr × Obj)}{σ:St}{H:Hp}{s:Shared}{a:Addr}{kvs:List (Key × V)}{k:Key}{u:Value}{A:Around}{E:Value→Shared→Prop}
end
def NoSl(i:Expr):Prop:=∀ov iv,subscripted i false ov iv=operate [ov,iv] (getItem ov iv)
theorem ya3{prog:Program}{w:World}{A:Around}{E:Value→Shared→Prop}{s:Shared}{env:Env}{value slice:Expr}{pos:Pos}{T id:String}{Q:Value→Shared→Prop}
  (hl:typeLookup (.type T) "__getitem__" =pure (some (.builtin id))) (hs:NoSl slice)
  (h:wpAny (model prog w) A (eval value env) (fun o s₁=>wpAny (model prog w) A (eval slice env) (fun i s₂=>s₂.TypeIs o T∧wpAny (model prog w) A (getItem o i) Q E s₂) E s₁) E s) :
  wpAny (model prog w) A (eval (.Subscript value slice pos) env) Q E s:=by
 refine Subscript_ (wpAny_mono h (fun o s₁ h₁=>wpAny_mono h₁ (fun i s₂ h₂=> ?_) fun _ _ x=>x) fun _ _ x=>x)
 obtain⟨hT,h₂⟩:=h₂
 unfold subscriptTail
 refine wpAny_bind ?_
 rw [getitemInPython_of_ne hT.not_modules]
 refine wpAny_bind (wpAny_specialOf hT hl ?_)
 have fin:wpAny (model prog w) A (subscripted slice false o i) (fun r s₃=>wpAny (model prog w) A (letTemporaryGo value o r >>= fun _=>pure r) Q E s₃) E s₂:=by
  rw [hs o i]
  exact wpAny_operating (wpAny_mono h₂ (fun r s₃ h₃=>wpAny_bind (wpAny_letTemporaryGo (wpAny_pure h₃))) fun _ _ x=>x)
 first
  | exact wpAny_pure (wpAny_bind fin)
  | exact wpAny_bind (wpAny_pure (wpAny_bind fin))
  | exact wpAny_bind fin
theorem y04{X:Cx}{pins:List (Addr × Obj)}{σ:St}{H:Hp}{s:Shared}{a:Addr}{y:V}{o:Option V}(I:Inv X pins σ H s)(g:JC H a y o):s.TypeIs (.ref a) "dict":=by
 rcases g with⟨kvs,k,e,_,_⟩ | ⟨kvs,k,b,e,_,_,_⟩
 ·obtain⟨_,_,vs,_,dd⟩:=My I.hok e
  exact dd.typeIs
 ·obtain⟨_,_,xs,_,dd⟩:=MD I.hok e
  exact dd.typeIs
def tDGet(td ty:TE):TE:=fun σ H Q=>td σ H fun x H1=>ty σ H1 fun y H2=>∃a v,x= .ref a∧JC H2 a y (some v)∧Q v H2
def tDIn(ty td:TE):TE:=fun σ H Q=>ty σ H fun y H1=>td σ H1 fun x H2=>∃a o,x= .ref a∧JC H2 a y o∧Q (.bl o.isSome) H2
def y0m(ty td:TE):TE:=fun σ H Q=>ty σ H fun y H1=>td σ H1 fun x H2=>∃a o,x= .ref a∧JC H2 a y o∧Q (.bl (!o.isSome)) H2
def sDPut(td ty tv:TE):TS:=fun D σ H=>tv σ H fun v H1=>td σ H1 fun x H2=>ty σ H2 fun y H3=>∃a H4,x= .ref a∧zU H3 a y v H4∧D.nx σ H4
section
variable{X:Cx}{o i e value:Expr}{pos pos' tpos:Pos}{td ty tv:TE}
theorem y0z(hu:X.A.units + 1 < cLine)(ho:PE X o td)(hi:PE X i ty)(hs:NoSl i):PE X (.Subscript o i pos) (tDGet td ty):=by
 intro pins s σ H Q I h
 refine ya3 PySem.F.slot_dict_getitem.lookup hs (thn (ho pins s σ H _ I h) fun u s1 ⟨x,H1,I1,rx,q1⟩=>thn (hi pins s1 σ H1 _ I1 q1) fun iv s2 ⟨y,H2,I2,ry,a,v,ex,g,q2⟩=> ?_)
 subst ex
 obtain rfl:u=Value.ref a:=rx
 exact⟨y04 I2 g,y4a hu I2 g ry fun w' s3 I3 rw'=>⟨v,H2,I3,rw',q2⟩⟩
theorem Zt(hu:X.A.units + 1 < cLine)(hi:PE X i ty)(ho:PE X o td):PC X .In i o (tDIn ty td):=by
 intro pins s σ H Q I h
 refine thn (hi pins s σ H _ I h) fun iv s1 ⟨y,H1,I1,ry,q1⟩=>thn (ho pins s1 σ H1 _ I1 q1) fun u s2 ⟨x,H2,I2,rx,a,ov,ex,g,q2⟩=> ?_
 subst ex
 obtain rfl:u=Value.ref a:=rx
 exact d_in hu I2 g ry fun s3 I3=>⟨.bl ov.isSome,H2,I3,rfl,q2⟩
theorem Zb(hu:X.A.units + 1 < cLine)(hi:PE X i ty)(ho:PE X o td):PC X .NotIn i o (y0m ty td):=by
 intro pins s σ H Q I h
 refine thn (hi pins s σ H _ I h) fun iv s1 ⟨y,H1,I1,ry,q1⟩=>thn (ho pins s1 σ H1 _ I1 q1) fun u s2 ⟨x,H2,I2,rx,a,ov,ex,g,q2⟩=> ?_
 subst ex
 obtain rfl:u=Value.ref a:=rx
 exact y92 hu I2 g ry fun s3 I3=>⟨.bl (!ov.isSome),H2,I3,rfl,q2⟩
theorem y8y(hu:X.A.units + 1 < cLine)(ho:PE X o td)(hi:PE X i ty)(hv:PE X value tv)(hs:swapsWith value (some (.Subscript o i pos')) pos.line X.env=pure false) :
  PS X (.Assign [.Subscript o i pos'] value pos) (sDPut td ty tv):=by
 intro pins s σ H D I h
 refine wpAny_Assign_Subscript (thn (hv pins s σ H _ I h) fun r s1 ⟨v,H1,I1,rv,q1⟩=>thn (ho pins s1 σ H1 _ I1 q1) fun u s2 ⟨x,H2,I2,rx,q2⟩=>thn (hi pins s2 σ H2 _ I2 q2) fun iv s3 ⟨y,H3,I3,ry,a,H4,ex,g,q3⟩=> ?_) hs
 subst ex
 obtain rfl:u=Value.ref a:=rx
 exact y5b hu I3 g ry rv fun s4 I4=>⟨σ,H4,I4,q3⟩
end
theorem Wf{P:Program}{w:World}{H:Hp}(h:Heap)(hb:sysModules < h.objs.size):yR P w H (h.push {cls:= .type "dict",data:= .dict #[]}) h.objs.size (.dK []):=
 ⟨yd9 _,beq_eq_false_iff_ne.mpr (Ne.symm (ycj hb)), [], .nil,Heap.DictOf.new h⟩
def ybd:TE:=fun _ H Q=>∀p,H p=none→Q (.ref p) (upd H p (.dK []))
section
variable{X:Cx}{pos:Pos}
theorem y6r:PE X (.Dict [] [] pos) ybd:=fun pins s σ H Q I h=>
 wpAny_Dict_empty ⟨.ref s.heap.objs.size,_,I.laid (a:=s.heap.objs.size) (o:= .dK []) (t':=s.toks) (fun _ _ q=>Heap.get?_push_of_some _ q) (yc6 _) (Wf s.heap I.big),rfl,h _ (I.hok.fresh (yc6 _))⟩
end
def zy:List (TE × TE)→St→Hp→(List (V × V)→Hp→Prop)→Prop
 | [],_,H,Q=>Q [] H
 | (tk,tv) :: r,σ,H,Q=>tk σ H fun x H1=>tv σ H1 fun y H2=>zy r σ H2 fun ps H3=>Q ((x,y) :: ps) H3
abbrev VV:List (V × V)→List (Value × Value)→Prop:=Paired fun p q=>yH p.1 q.1∧yH p.2 q.2
def PPs(X:Cx)(pos:Pos)(keys:List (Option Expr))(values:List Expr)(trs:List (TE × TE)):Prop:=
 ∀(pins:List (Addr × Obj)) (s:Shared) (σ:St) (H:Hp) (Q:List (V × V)→Hp→Prop),Inv X pins σ H s→zy trs σ H Q→
  wpAny (model X.prog X.w) X.A (evalPairs (pairTrees keys values X.env pos)) (fun vs s'=>∃ps H',Inv X pins σ H' s'∧VV ps vs∧Q ps H') X.xe s
theorem y8u{X:Cx}{pos:Pos}:PPs X pos [] [] []:=fun pins s σ H Q I h=>pairTrees_nil_walk ⟨[],H,I, .nil,h⟩
theorem y66{X:Cx}{pos:Pos}{k v:Expr}{ks:List (Option Expr)}{vs:List Expr}{tk tv:TE}{trs:List (TE × TE)}(hk:PE X k tk)(hv:PE X v tv)(hr:PPs X pos ks vs trs) :
  PPs X pos (some k :: ks) (v :: vs) ((tk,tv) :: trs):=fun pins s σ H Q I h=>
 pairTrees_cons_walk (thn (hk pins s σ H _ I h) fun u s1 ⟨x,H1,I1,rx,q1⟩=>thn (hv pins s1 σ H1 _ I1 q1) fun w2 s2 ⟨y,H2,I2,ry,q2⟩=>
  thn (hr pins s2 σ H2 _ I2 q2) fun ws s3 ⟨ps,H3,I3,rel,q3⟩=>⟨(x,y) :: ps,H3,I3, .cons ⟨rx,ry⟩ rel,q3⟩)
def JV(kvs more:List (Key × V)):List (Key × V):=more.foldl (fun acc kv=>J2 acc kv.1 kv.2) kvs
theorem KV.merge:∀{more:List (Key × V)} {rs:List (Key × Value)} {kvs:List (Key × V)} {vs:List (Key × Value)},KV more rs→KV kvs vs→KV (JV kvs more) (merged vs rs):=by
 intro more rs kvs vs r
 unfold KV at r
 induction r generalizing kvs vs with
 | nil=>intro q; exact q
 | @cons p q ps qs h t ih=>
  intro r0
  have e:KV (J2 kvs p.1 p.2) (stored vs q.1 q.2):=by
   have:=r0.put p.1 h.2
   rw [←h.1]; exact this
  exact ih e
theorem Z8:∀(more kvs:List (Key × V)),(JV kvs more).length≤kvs.length + more.length
 | [],kvs=>by show kvs.length≤kvs.length + 0; omega
 | p :: r,kvs=>by
  have h1:=Z8 r (J2 kvs p.1 p.2)
  have h2:=VX kvs p.1 p.2
  show(JV (J2 kvs p.1 p.2) r).length≤_
  rw [yct]; omega
theorem QE{P:Program}{w:World}:∀{kvs:List (Key × V)} {ws:List (Value × Value)},VV (kvs.map fun kv=>(kV kv.1,kv.2)) ws→∃rs,Carries (yL P w) ws rs∧KV kvs rs
 | [],_,r=>by rw [yfg] at r; cases r; exact⟨[],True.intro, .nil⟩
 | p :: kvs,_,r=>by
  rw [ycv] at r
  cases r with
  | @cons a b as bs h t=>
   obtain⟨rs,c,q⟩:=QE (P:=P) (w:=w) t
   obtain⟨b1,b2⟩:=b
   exact⟨(p.1,b2) :: rs,⟨Lv h.1,rfl,c⟩, .cons ⟨rfl,h.2⟩ q⟩
def tDisp(trs:List (TE × TE)):TE:=fun σ H Q=>∀p,H p=none→zy trs σ (upd H p (.dK [])) fun ps H2=>H2 p=some (.dK [])∧∃kvs:List (Key × V),ps=kvs.map (fun kv=>(kV kv.1,kv.2))∧kvs.length≤15∧Q (.ref p) (upd H2 p (.dK (JV [] kvs)))
theorem y9x{X:Cx}{pos:Pos}{keys:List (Option Expr)}{values:List Expr}{trs:List (TE × TE)}(h:PPs X pos keys values trs)(hall:keys.all (·.isSome)=true)(hl:keys.length=values.length)(h0:keys ≠ [])
  (h15:keys.length≤15):PE X (.Dict keys values pos) (tDisp trs):=by
 intro pins s σ H Q I q
 have hn:=I.hok.fresh (yc6 s.heap.objs.size)
 have I1:=I.laid (a:=s.heap.objs.size) (o:= .dK []) (h':=s.heap.push {cls:= .type "dict",data:= .dict #[]}) (t':=s.toks) (fun _ _ q=>Heap.get?_push_of_some _ q) (yc6 _) (Wf s.heap I.big)
 refine wpAny_Dict_walk (knd:=yL X.prog X.w) hall hl h0 h15 (thn (h pins _ σ _ _ I1 (q _ hn)) fun ws s2 ⟨ps,H2,I2,rel,e,kvs,ep,lk,q2⟩=> ?_)
 subst ep
 obtain⟨rs,c,rk⟩:=QE (P:=X.prog) (w:=X.w) rel
 obtain⟨z,hd,vs0,r0,dd⟩:=ZT I2.hok e
 cases r0
 refine⟨rs,c,dd,fun h' dd' hs=>⟨.ref s.heap.objs.size,_, ?_,rfl,q2⟩⟩
 have hz:(JV [] kvs).length≤sizeLine:=by
  have h1:=Z8 kvs []
  rw [ygr] at h1
  rw [sizeLine_eq]; omega
 have he:∃q,h'.get? s.heap.objs.size=some q:=let ⟨q,_,_,hq,_⟩:=dd'; ⟨q,hq⟩
 exact ZW I2 (by rw [e]; exact True.intro) hs he (W6 hz hd (rk.merge .nil) dd')
structure M2 (X:Cx) (o:Expr) (m:Str) (apos:Pos) (e f:Expr) (cpos:Pos):Prop where
 base:attributeBase o m X.env (eval o X.env)=eval o X.env
 few:((backTo cpos (starEach [e,f] X.env)).all (fun x=> !x.1) && (backToKw cpos (keywordEach [] X.env)).all (fun x=>x.1.isSome)
  && decide (([e,f]:List Expr).length + ([]:List Keyword).length + (if ([]:List Keyword).isEmpty then 0 else 1) < 30))=true
 line:(apos.endLine == cpos.line)=true
 trees:backTo cpos (starEach [e,f] X.env)= [(false,eval e X.env),(false,eval f X.env)]
def IsD(H:Hp)(a:Addr):Prop:=(∃kvs,Rd H a (.dK kvs))∨∃kvs,Rd H a (.dT kvs)
theorem ybn{X:Cx}{pins:List (Addr × Obj)}{σ:St}{H:Hp}{s:Shared}{a:Addr}(I:Inv X pins σ H s)(d:IsD H a) :
  s.TypeIs (.ref a) "dict"∧(∀b,Value.ref a= .ref b→∃ob,s.heap.get? b=some ob∧ob.dict=none)∧(a == sysModules)=false:=by
 rcases d with⟨kvs,e⟩ | ⟨kvs,e⟩
 ·obtain⟨_,hd,vs,_,dd⟩:=My I.hok e
  refine⟨dd.typeIs,fun b q=> ?_,hd⟩
  cases q
  obtain⟨ob,_,_,h1,h2,_⟩:=dd
  exact⟨ob,h1,h2.2.1⟩
 ·obtain⟨_,hd,xs,_,dd⟩:=MD I.hok e
  refine⟨dd.typeIs,fun b q=> ?_,hd⟩
  cases q
  obtain⟨ob,_,_,h1,h2,_⟩:=dd
  exact⟨ob,h1,h2.2.1⟩
section
variable{X:Cx}{pins:List (Addr × Obj)}{σ:St}{H:Hp}{s:Shared}{a:Addr}{y d:V}{u r:Value}{o:Option V}{A:Around}{E:Value→Shared→Prop}
theorem ybg{Q:Value→Shared→Prop}(hu:A.units + 1 < cLine)(I:Inv X pins σ H s)(g:JC H a y o)(ry:yH y u)(rd:yH d r)(h:∀w' s',Inv X pins σ H s'→yH (o.getD d) w'→Q w' s') :
  wpAny (model X.prog X.w) A (call (.builtin "dict.get") [.ref a,u,r]) Q E s:=by
 rcases g with⟨kvs,k,e,ey,l⟩ | ⟨kvs,k,b,e,ey,eb,l⟩
 ·subst ey
  obtain⟨z,hd,vs,rel,dd⟩:=My I.hok e
  refine call_meetsIn ygi dd.typeIs yi0 (yhn _ _ _) (meets_dict_get_default (yL X.prog X.w) a (Lv ry) hd r) ⟨_,dd.mapOf,h _ _ (I.tok _) ?_⟩
  rw [l]
  exact(rel.val k).getD rd
 ·subst ey
  cases (show u=Value.ref b from ry)
  obtain⟨z,hd,xs,rel,dd⟩:=MD I.hok e
  refine call_meetsIn ygi dd.typeIs yi0 (yhn _ _ _) (meetsH_dict_get_default (tupleKind (yL X.prog X.w)) a b hd r) ⟨tupleKind_room_in1 hu,k,xs,Mv I.hok eb,dd,h _ _ (I.tok _) ?_⟩
  rw [l]
  exact(rel.val k).getD rd
end
def yb0(td ty tx:TE):TE:=fun σ H Q=>td σ H fun x H1=>∃a,x= .ref a∧IsD H1 a∧ty σ H1 fun y H2=>tx σ H2 fun z H3=>∃o,JC H3 a y o∧Q (o.getD z) H3
section
variable{X:Cx}{o e f:Expr}{apos cpos:Pos}{td ty tx:TE}
theorem y6k(hu:X.A.units + 1 < cLine)(ho:PE X o td)(he:PE X e ty)(hf:PE X f tx)(m:M2 X o "get" apos e f cpos):PE X (.Call (.Attribute o "get" apos) [e,f] [] cpos) (yb0 td ty tx):=by
 intro pins s σ H Q I h
 refine wpAny_Call_method m.base m.few m.line yho ygi PySem.F.type_dict_get (thn (ho pins s σ H _ I h) fun u s1 ⟨x,H1,I1,rx,a,ex,d,q1⟩=> ?_)
 subst ex
 obtain rfl:u=Value.ref a:=rx
 obtain⟨t1,t2,_⟩:=ybn I1 d
 refine⟨t1,t2, ?_⟩
 rw [m.trees]
 refine Calls.callWith_builtin rfl (Calls.evalArgs_plain (Calls.spliced_cons (thn (he pins s1 σ H1 _ I1 q1) fun iv s2 ⟨y,H2,I2,ry,q2⟩=>
  Calls.spliced_cons (thn (hf pins s2 σ H2 _ I2 q2) fun fv s3 ⟨z,H3,I3,rz,ov,g,q3⟩=>Calls.spliced_nil ?_))))
 exact ybg hu I3 g ry rz fun w' s4 I4 rw'=>⟨_,H3,I4,rw',q3⟩
end
section
variable{X:Cx}{pins:List (Addr × Obj)}{σ:St}{H:Hp}{s:Shared}{a:Addr}{kvs:List (Key × V)}{A:Around}{E:Value→Shared→Prop}
end
section
variable{X:Cx}{pins:List (Addr × Obj)}{σ:St}{H:Hp}{s:Shared}{a:Addr}{y:V}{u:Value}{A:Around}{E:Value→Shared→Prop}
end
end L2
namespace Att
open PySem PySem.W PySem.Calls PyProof.Rows
theorem QN{P:Params}{h:Heap}:∀(ns:List Int) (vs:List Value),WellAll P h vs (ns.map WData.int)→IntsAre vs ns:=by
 intro ns
 induction ns with
 | nil=>
  intro vs w
  rw [yfg] at w
  cases w
  exact .nil
 | cons n ns ih=>
  intro vs w
  rw [ycv] at w
  cases w with
  | cons a b=>
   cases a
   exact .cons _ _ (ih _ b)
theorem y51{l:OpenLaw}{n:Nat}(hn:l.most=some n){P:Params}{h:Heap}{args:List WData}{vals:List Value}
  (hpre:l.row.toRowW.claim.pre args=true) (hwl:WellAll P h vals args) :
  ∃a vs ns,vals= [Value.ref a]∧args= [WData.list (ns.map WData.int)]∧h.get? a=some {cls:= .type "list",data:= .seq vs.toArray}∧IntsAre vs ns∧ns.length≤n:=by
 have hsh:WShape.hasAll [] args [.list .int]=true:=(pre_splitW hpre).1
 have hc:l.pre.holds [] {args:=args}=true:=(pre_splitW hpre).2
 obtain⟨d,r,rfl,h1,h2⟩:=hasAllW_cons hsh
 obtain rfl:=hasAllW_nil h2
 obtain⟨xs,rfl,h3⟩:=hasW_list h1
 obtain⟨ns,rfl⟩:=items_int h3
 have hlen:ns.length≤n:=by
  unfold OpenLaw.pre at hc
  have h4:(WTm.not (.lt (.lit (.int (n:Int))) (.len (.arg 0)))).holds [] {args:= [.list (ns.map .int)]}=true:=by
   have h4:=(holds_andW hc).1
   rw [hn] at h4
   exact h4
  have h5:=condW_of h4 (w_not (w_lt w_lit (w_len_list (w_arg rfl))))
  rw [yc2] at h5
  refine Nat.le_of_not_lt fun q=> ?_
  have q':(n:Int) < ((ns.length:Nat):Int):=by omega
  first
   | (rw [decide_eq_true q'] at h5; exact absurd h5 (by decide))
   | (simp at h5; omega)
 cases hwl with
 | cons w1 w2=>
  cases w2
  cases w1 with
  | list ho hall=>exact⟨_,_,ns,rfl,rfl,ho,QN ns _ hall,hlen⟩
theorem y3b(l:OpenLaw)(args:List WData):l.row.toRowW.claim.post args (.bool true) args=true:=
 postW_of (r:=l.row.toRowW) (X:=(true == true))
  (show WShape.has [] (.bool true) .bool=true by first | rfl | decide | simp [WShape.has,WShape.arms,WShape.armsAll])
  (show(WTm.eq .res (.lit (.bool true))).value [] {args:=args,res:=some (.bool true),after:=args}=some (.bool (true == true)) from w_eq_bool (w_res rfl) w_lit) rfl
theorem attach_call{l:OpenLaw}{n:Nat}{q:Program}{loose:List Str}{XP:(Str→Option Value)→Heap→Prop}{YP:World→Heap→Prop}{d:DefRec}
  (hn:l.most=some n) (hdf:d.params.defaults= [])
  (call:∀(w:World) (s₀ s₁:Shared) (mg mb:Str→Option Value) (fa:Addr) (o:Obj) (pm cd doc:Value) (a:Addr) (vs:List Value) (ns:List Int),
   Ground q loose [] XP w s₀ mg mb s₁.heap→YP w s₁.heap→
   s₁.heap.get? fa=some o→o.data= .func (docDef d.name d.params d.body d.scope pm cd doc)→s₁.heap.CodeRec cd d.name→mg d.name=some (.ref fa)→
   s₁.heap.get? a=some {cls:= .type "list",data:= .seq vs.toArray}→IntsAre vs ns→ns.length≤n→s₁.gens=#[]→
   codeAny (model l.prog w) callerA (.call (.ref fa) ⟨[.ref a], []⟩) (fun r s'=>r= .ok (.ret (.bool true))∧OldK s₁.heap s'.heap∧s'.os=s₁.os∧AllBare s'.gens) s₁) :
  WalkO q loose XP YP l.row.toRowW d [] (fun f vs=>PySem.call f vs):=by
 intro w s₀ s₁ mg mb G Y fa o pm cd doc dV kV ho hd hcd hD hmg hg args vals as hpre hlay hrd hwl hlo
 obtain rfl:dV= .none:=Dflts.none hD hdf
 obtain rfl:kV= .none:=Dflts.noKw hD
 obtain⟨a,vs,ns,rfl,rfl,hobj,hints,hlen⟩:=y51 hn hpre hwl
 refine enter_call (codeAny_mono (call w s₀ s₁ mg mb fa o pm cd doc a vs ns G Y ho (fd_plain hd) hcd hmg hobj hints hlen hg) fun r s' hq=> ?_)
 obtain⟨rfl,h2,h3,h4⟩:=hq
 exact⟨.inl ⟨.bool true, .bool true, [],rfl,fun _=>rfl, .bool true,y3b l _,fun _=>⟨yep.nil,fun _ hm=>(nomatch hm)⟩⟩,h2,h3,h4⟩
section
variable{prog:Program}{w:World}{A:Around}{E:Value→Shared→Prop}{s:Shared}{K:Frag}
def noObjs(h:Heap):Heap:={h with objs:=#[]}
theorem noObjs_get(h:Heap)(b:Addr):(noObjs h).get? b=none:=by
 cases e:(noObjs h).get? b with
 | none=>rfl
 | some o=>exact absurd (Heap.lt_size e) (yee _)
def ledger(h:Heap)(L d:Addr):List (Addr × Obj):=(ycd h.objs.size).filterMap fun a=>if a=L∨a=d then none else(h.get? a).map fun o=>(a,o)
theorem mem_ledger{h:Heap}{L d a:Addr}{o:Obj}:(a,o) ∈ ledger h L d↔a ≠ L∧a ≠ d∧h.get? a=some o:=by
 unfold ledger
 rw [yfk]
 constructor
 ·rintro⟨b,_,e⟩
  split at e
  ·cases e
  ·rename_i hb
   obtain⟨o',ho,e'⟩:=yhz.mp e
   cases e'
   exact⟨fun q=>hb (.inl q),fun q=>hb (.inr q),ho⟩
 ·rintro⟨n1,n2,ho⟩
  refine⟨a,ycs.mpr (Heap.lt_size ho), ?_⟩
  rw [if_neg (show ¬(a=L∨a=d) from fun q=>q.elim n1 n2),ho] <;> rfl
theorem fr_all{h:Heap}{L:Addr}{m:Str→Option Value}(n:h.Ns L m):Fr (noObjs h) L h m:=
 ⟨n,fun b o e=>(by rw [noObjs_get] at e; cases e),yd9 _⟩
end
end Att
namespace L2
open PySem PySem.Spec PyProof.Rows
theorem xG:∀{vs:List Value} {ns:List Int},IntsAre vs ns→yz (ns.map V.int) vs
 | _,_, .nil=> .nil
 | _,_, .cons n t h=> .cons ⟨t,rfl⟩ (xG h)
end L2
namespace L2
open PySem PySem.Spec PyProof.Rows
end L2
namespace L2
open PySem PySem.Spec PyProof.Rows
def yA(s:Stmt):Arguments:=match s with
 | .FunctionDef _ a _ _ _ _ _ _ _ _=>a
 | _=>{posonlyargs:= [],args:= [],vararg:=none,kwonlyargs:= [],kw_defaults:= [],kwarg:=none,defaults:= []}
def yu(s:Stmt):List Stmt:=match s with
 | .FunctionDef _ _ b _ _ _ _ _ _ _=>b
 | _=> []
def ya(s:Stmt):Scope:=match s with
 | .FunctionDef _ _ _ _ _ _ sc _ _ _=>sc
 | _=>{kind:= .function,names:= [],isGenerator:=false,isCoroutine:=false}
abbrev CX0:CXT:=fun _ _ _ _ _ _=>False
abbrev E0:XK:=fun _ _ _=>False
theorem yr{X:Cx}:QW CX0 X E0:=fun _ _ _ _ _ _ _ h=>h.elim
structure Fun (K:yc3) (x qual:Str) (st:Stmt) (f:Addr) (fd:FuncData):Prop where
 ex:∃(oc:Value) (od:Option Addr) (kV doc pm:Value) (an:Option Addr) (cdv ct:Value) (osl:Array (Option Value)),
  fd=ycq x qual (yA st) (yu st) (ya st) .none kV doc pm an cdv ct∧K.lookup f=some ⟨oc,od, .func fd,osl⟩∧ycl K cdv qual=true
 kp:yck K (.ref f)=true
section
variable{P:Program}{w:World}{K:yc3}{mg:Str→Option Value}{base:Heap}
theorem Fun.ok{x qual:Str}{st:Stmt}{f:Addr}{fd:FuncData}{N ps:List Str}{k:Nat}{sp:Sp}(F:Fun K x qual st f fd)(S:FnScope N ps (ya st))(len:∀vs H Q E,sp vs H Q E→vs.length=ps.length)
  (hbody:∀(cdv:Value) (A:Around) (outer:List Env) (s:Shared) (H:Hp) (vs:List V) (Q:VK) (E:XK),Room k (A.deeper (envOfC qual (ya st) s.heap.objs.size f cdv))→sp vs H Q E→
   ∃t,PSs (JU CX0 P w K mg base N qual (ya st) f cdv A outer s H E).nox (yu st) t∧t {nx:=fun _ H'=>Q .non H',rt:=Q} (start N vs) H):FnOk P w K mg base CX0 (k + 1) f fd ps sp:=by
 obtain⟨oc,od,kV,doc,pm,an,cdv,ct,osl,rfl,lk,hcd⟩:=F.ex
 refine zn lk hcd S len fun A outer s H vs Q E hr hsp=> ?_
 obtain⟨t,h,q⟩:=hbody cdv A outer s H vs Q E hr hsp
 exact⟨t,h.nox,q⟩
theorem Fun.binds{x qual:Str}{st:Stmt}{f:Addr}{fd:FuncData}{ps:List Str}(F:Fun K x qual st f fd)
  (h:∀(kV doc pm:Value) (an:Option Addr) (cdv ct:Value) (us:List Value),us.length=ps.length→bindArgs (ycq x qual (yA st) (yu st) (ya st) .none kV doc pm an cdv ct) ⟨us, []⟩=pure (ps.zip us)):Lu K fd ps []:=by
 obtain⟨oc,od,kV,doc,pm,an,cdv,ct,osl,rfl,lk,hcd⟩:=F.ex
 exact .all (h kV doc pm an cdv ct)
theorem yM{x qual:Str}{st:Stmt}{f:Addr}{oc:Value}{od an:Option Addr}{osl:Array (Option Value)}{kV doc pm cdv ct:Value}(l:K.lookup f=some ⟨oc,od, .func (ycq x qual (yA st) (yu st) (ya st) .none kV doc pm an cdv ct),osl⟩)
  (c:ycl K cdv qual=true) (k:yck K (.ref f)=true):Fun K x qual st f (ycq x qual (yA st) (yu st) (ya st) .none kV doc pm an cdv ct):=⟨⟨oc,od,kV,doc,pm,an,cdv,ct,osl,rfl,l,c⟩,k⟩
end
theorem Lp{A:Around}{k:Nat}(hr:Room k A):A.units + 1 < cLine:=yfl (ygv (by decide:1≤64) _) hr.units
theorem JM{n:Nat}(h:n≤1000):n < sizeLine:=yfl h (by decide)
section
variable{X:Cx}
theorem pv(i:Nat){x:Str}{pos:Pos}(hN:X.N[i]? =some x:=by rfl)(hv:Vis X.env.scope x:=by first | exact Or.inl rfl | exact Or.inr (Or.inl rfl) | exact Or.inr (Or.inr rfl))(hd:(x == ("__debug__" :Str))=false:=by decide)
  (hcd:(x == ("__classdict__" :Str))=false:=by decide):PE X (.Name x pos) (Jc i):=ybc hN hv hd hcd
end
theorem Y0{A B:Prop}(h:B):if false=true then A else B:=by
 rw [if_neg ycp]
 exact h
theorem yT{A B:Prop}(h:A):if true=true then A else B:=by
 rw [if_pos rfl]
 exact h
theorem Lj{c A B:Prop}[Decidable c](h1:c→A)(h2:¬c→B):if c then A else B:=by
 by_cases h:c
 ·rw [if_pos h]
  exact h1 h
 ·rw [if_neg h]
  exact h2 h
theorem zx{c A B:Prop}[Decidable c](hc:c)(h:B):if (!decide c)=true then A else B:=by
 rw [decide_eq_true hc]
 exact Y0 h
def yg(H H':Hp):Prop:=∀b o,H b=some o→H' b=some o
theorem yg.refl(H:Hp):yg H H:=fun _ _ h=>h
theorem yg.trans{H H1 H2:Hp}(a:yg H H1)(b:yg H1 H2):yg H H2:=fun c o h=>b c o (a c o h)
theorem yg.free{H H':Hp}(e:yg H H'){l:Addr}(h:H' l=Option.none):H l=Option.none:=by
 cases q:H l with
 | none=>rfl
 | some o=>
  rw [e l o q] at h
  cases h
theorem yg.seq{K:yc3}{H H':Hp}{a:Addr}{xs:List V}(e:yg H H')(h:SqL K H a xs):SqL K H' a xs:=by
 rcases h with(h | ⟨o,h⟩) | h
 ·exact .inl (.inl (e _ _ h))
 ·exact .inl (.inr ⟨o,e _ _ h⟩)
 ·exact .inr h
section
variable{κ:Type}[DecidableEq κ]
theorem y76{kvs:List (κ × V)}{k:κ}(h:YM kvs k=none):¬k ∈ kvs.map (·.1):=by
 intro m
 obtain⟨p,hp,e⟩:=ycf.mp m
 have q:(kvs.any fun kv=>decide (kv.1=k))=true:=List.any_eq_true.mpr ⟨p,hp,decide_eq_true e⟩
 rw [MZ,h] at q
 exact absurd q (by simp)
theorem Lz:∀{l:List κ} {k:κ},l.Nodup→¬k ∈ l→(l ++ [k]).Nodup
 | [],k,_,_=>by simp
 | a :: r,k,h,hk=>by
  obtain⟨h1,h2⟩:=ydk.mp h
  show(a :: (r ++ [k])).Nodup
  refine ydk.mpr ⟨fun m=> ?_,Lz h2 fun m=>hk (ycg.mpr (Or.inr m))⟩
  rcases ycw.mp m with q | q
  ·exact h1 q
  ·exact hk (ycg.mpr (Or.inl (ycb.mp q).symm))
end
end L2
namespace Gra
theorem length_le_of_subset{α:Type}[DecidableEq α]:∀{l m:List α},l.Nodup→(∀x ∈ l,x ∈ m)→l.length≤m.length
 | [],_,_,_=>yd9 _
 | a :: l,m,h,s=>by
  obtain⟨h1,h2⟩:=ydk.mp h
  have ha:a ∈ m:=s a yc8
  have q:=length_le_of_subset (m:=m.erase a) h2 fun x hx=>(yif (fun e:x=a=>h1 (by rw [←e]; exact hx))).mpr (s x (yc9 _ hx))
  have e:=yhf ha
  have:0 < m.length:=ygb ha
  rw [yct]
  omega
theorem ZF{l:List Int}{n:Int}(h:l.Nodup)(hr:∀x ∈ l,0≤x∧x < n):(l.length:Int)≤n∨l= []:=by
 by_cases hn:0≤n
 ·left
  have q:=length_le_of_subset (m:=(ycd n.toNat).map (fun(i:Nat)=>(i:Int))) h fun x hx=>by
   obtain⟨h0,h1⟩:=hr x hx
   refine ycf.mpr ⟨x.toNat,ycs.mpr (by omega),by omega⟩
  rw [yc2,yd2] at q
  omega
 ·right
  cases l with
  | nil=>rfl
  | cons a l=>have:=hr a yc8; omega
abbrev y8:=List (Int × Int)
abbrev yW:=List (Int × Option Int)
def keys(t:yW):List Int:=t.map (·.1)
structure Reach (ls:y8) (start:Int) (t:yW):Prop where
 head:t[0]? =some (start,none)
 nd:(keys t).Nodup
 par:∀i k o,t[i]? =some (k,o)→0 < i→∃p j o',o=some p∧j < i∧t[j]? =some (p,o')∧(p,k) ∈ ls
def jJ(ls:y8)(t:yW)(n:Nat):Prop:=∀i k o e,i < n→t[i]? =some (k,o)→(k,e) ∈ ls→e ∈ keys t
theorem jK{t:yW}{k:Int}:k ∈ keys t↔∃(i:Nat) (o:Option Int),t[i]? =some (k,o):=by
 constructor
 ·intro h
  obtain⟨p,hp,e⟩:=ycf.mp h
  obtain⟨i,hi⟩:=yd1.mp hp
  exact⟨i,p.2,by rw [hi,←e]⟩
 ·rintro⟨i,o,h⟩
  exact ycf.mpr ⟨(k,o),yce h,rfl⟩
theorem jZ(t u:yW):keys (t ++ u)=keys t ++ keys u:=yci
theorem y03(ls:y8)(start:Int):Reach ls start [(start,none)]:=by
 refine⟨rfl,by simp [keys],fun i k o h hi=> ?_⟩
 cases i with
 | zero=>omega
 | succ i=>simp at h
theorem Reach.push{ls:y8}{start:Int}{t:yW}(r:Reach ls start t){e p:Int}(he:e ∉ keys t)(hp:p ∈ keys t)(hl:(p,e) ∈ ls):Reach ls start (t ++ [(e,some p)]):=by
 have h0:0 < t.length:=(yc5.mp r.head).1
 refine⟨?_, ?_,fun i k o h hi=> ?_⟩
 ·rw [ycu h0]; exact r.head
 ·rw [jZ]
  refine yel.mpr ⟨r.nd,by simp [keys],fun a ha b hb=> ?_⟩
  have hb':b=e:=by simpa [keys] using hb
  rw [hb']
  exact fun z=>he (z ▸ ha)
 ·rcases yf6 i t.length with c | c | c
  ·rw [ycu c] at h
   obtain⟨p',j,o',e1,e2,e3,e4⟩:=r.par i k o h hi
   exact⟨p',j,o',e1,e2,by rw [ycu (by omega)]; exact e3,e4⟩
  ·subst c
   rw [ydz (yc6 _)] at h
   simp at h
   obtain⟨rfl,rfl⟩:=h
   obtain⟨j,o',hj⟩:=jK.mp hp
   have hlt:j < t.length:=(yc5.mp hj).1
   exact⟨p,j,o',rfl,hlt,by rw [ycu hlt]; exact hj,hl⟩
  ·rw [yd6 (by rw [ycr,yd5]; omega)] at h
   cases h
theorem jJ.mono{ls:y8}{t u:yW}{n:Nat}(d:jJ ls t n)(hn:n≤t.length):jJ ls (t ++ u) n:=fun i k o e hi h hl=>by
 rw [ycu (by omega)] at h
 rw [jZ]
 exact yde _ (d i k o e hi h hl)
theorem jJ.succ{ls:y8}{t:yW}{n:Nat}(d:jJ ls t n){k:Int}(hk:(keys t)[n]? =some k)(h:∀e,(k,e) ∈ ls→e ∈ keys t):jJ ls t (n + 1):=fun i k' o e hi hk' hl=>by
 rcases ydq i n with c | c
 ·exact d i k' o e c hk' hl
 ·have:i=n:=by omega
  subst this
  have e1:(keys t)[i]? =some k':=by unfold keys; rw [yca,hk']; rfl
  rw [hk] at e1
  cases e1
  exact h e hl
theorem jJ.closed{ls:y8}{t:yW}(d:jJ ls t t.length){a b:Int}(h:(a,b) ∈ ls)(ha:a ∈ keys t):b ∈ keys t:=by
 obtain⟨i,o,hi⟩:=jK.mp ha
 exact d i a o b (yc5.mp hi).1 hi h
theorem Reach.in_range{ls:y8}{start:Int}{t:yW}{n:Int}(r:Reach ls start t)(hs:0≤start∧start < n)(hl:∀p ∈ ls,(0≤p.1∧p.1 < n)∧(0≤p.2∧p.2 < n)):∀k ∈ keys t,0≤k∧k < n:=fun k hk=>by
 obtain⟨i,o,hi⟩:=jK.mp hk
 by_cases c:i=0
 ·subst c
  rw [r.head] at hi
  cases hi
  exact hs
 ·obtain⟨p,j,o',_,_,_,h⟩:=r.par i k o hi (by omega)
  exact(hl _ h).2
theorem Reach.len_le{ls:y8}{start:Int}{t:yW}{n:Int}(r:Reach ls start t)(hs:0≤start∧start < n)(hl:∀p ∈ ls,(0≤p.1∧p.1 < n)∧(0≤p.2∧p.2 < n)):(t.length:Int)≤n:=by
 have q:=ZF r.nd (r.in_range hs hl)
 have e:(keys t).length=t.length:=yc2 _
 rcases q with q | q
 ·omega
 ·rw [q] at e; simp at e; omega
theorem Reach.start_mem{ls:y8}{start:Int}{t:yW}(r:Reach ls start t):start ∈ keys t:=jK.mpr ⟨0,none,r.head⟩
def look(t:yW)(k:Int):Option (Option Int):=(t.find? fun p=>decide (p.1=k)).map (·.2)
theorem qO{t:yW}(nd:(keys t).Nodup){i:Nat}{k:Int}{o:Option Int}(h:t[i]? =some (k,o)):look t k=some o:=by
 induction t generalizing i with
 | nil=>simp at h
 | cons p r ih=>
  obtain⟨n1,n2⟩:=ydk.mp (show(p.1 :: keys r).Nodup from nd)
  unfold look
  rw [ye6]
  by_cases c:p.1=k
  ·rw [decide_eq_true c]
   cases i with
   | zero=>simp at h; subst h; rfl
   | succ i=>
    rw [yew] at h
    exact absurd (jK.mpr ⟨i,o,h⟩) (c ▸ n1)
  ·rw [decide_eq_false c]
   cases i with
   | zero=>simp at h; subst h; exact absurd rfl c
   | succ i=>
    rw [yew] at h
    exact ih n2 h
theorem xg{t:yW}{k:Int}(h:k ∉ keys t):look t k=none:=by
 unfold look
 rw [Option.map_eq_none_iff,yh0]
 intro p hp c
 exact h (ycf.mpr ⟨p,hp,of_decide_eq_true c⟩)
theorem y7p{t:yW}{k:Int}:(look t k).isSome=decide (k ∈ keys t):=by
 by_cases h:k ∈ keys t
 ·rw [decide_eq_true h]
  obtain⟨p,hp,e⟩:=ycf.mp h
  unfold look
  rw [yfv,List.find?_isSome]
  exact⟨p,hp,decide_eq_true e⟩
 ·rw [decide_eq_false h,xg h]; rfl
def zk(ls:y8):List Int→Prop
 | a :: b :: r=>(a,b) ∈ ls∧zk ls (b :: r)
 | _=>True
structure Back (ls:y8) (t:yW) (place:Int) (r:List Int) (i:Nat):Prop where
 ix:∃c o,t[i]? =some (c,o)∧r.head? =some c
 ge:∀x ∈ r,∃j o,i≤j∧t[j]? =some (x,o)
 nd:r.Nodup
 ch:zk ls r
 la:r.getLast? =some place
theorem y2l{ls:y8}{t:yW}{place:Int}{i:Nat}{o:Option Int}(h:t[i]? =some (place,o)):Back ls t place [place] i:=
 ⟨⟨place,o,h,rfl⟩,fun x hx=>⟨i,o,yc6 _,by rw [ycb.mp hx]; exact h⟩,by simp,True.intro,rfl⟩
theorem y40{t:yW}(nd:(keys t).Nodup){i j:Nat}{k:Int}{o o':Option Int}(h:t[i]? =some (k,o))(h':t[j]? =some (k,o')):i=j:=by
 have hi:(keys t)[i]? =some k:=by unfold keys; rw [yca,h]; rfl
 have hj:(keys t)[j]? =some k:=by unfold keys; rw [yca,h']; rfl
 obtain⟨h1,e1⟩:=yc5.mp hi
 obtain⟨h2,e2⟩:=yc5.mp hj
 exact(yfz nd).mp (e1.trans e2.symm)
theorem Back.more{ls:y8}{start:Int}{t:yW}{place:Int}{r:List Int}{i:Nat}(R:Reach ls start t)(b:Back ls t place r i){c p:Int}(hc:r.head? =some c)(hp:look t c=some (some p)):∃j,j < i∧Back ls t place (p :: r) j:=by
 obtain⟨c',o,hi,hc'⟩:=b.ix
 rw [hc] at hc'
 have ec:c=c':=Option.some.inj hc'
 subst ec
 have eo:=qO R.nd hi
 rw [hp] at eo
 have e1:o=some p:=(Option.some.inj eo).symm
 subst e1
 have i0:0 < i:=by
  rcases yh1 i with z | z
  ·subst z
   rw [R.head] at hi
   have:=congrArg (fun x=>x.map (·.2)) hi
   simp at this
  ·exact z
 obtain⟨p',j,o',e2,hj,hp',hl⟩:=R.par i c (some p) hi i0
 cases e2
 refine⟨j,hj,⟨⟨p,o',hp',rfl⟩,fun x hx=> ?_, ?_, ?_, ?_⟩⟩
 ·rcases ycg.mp hx with e | e
  ·exact⟨j,o',yc6 _,by rw [e]; exact hp'⟩
  ·obtain⟨j',o2,h1,h2⟩:=b.ge x e
   exact⟨j',o2,by omega,h2⟩
 ·refine ydk.mpr ⟨fun m=> ?_,b.nd⟩
  obtain⟨j',o2,h1,h2⟩:=b.ge p m
  have:=y40 R.nd hp' h2
  omega
 ·cases r with
  | nil=>cases hc
  | cons x r=>
   have ex:x=c:=Option.some.inj hc
   subst ex
   exact⟨hl,b.ch⟩
 ·cases r with
  | nil=>cases hc
  | cons x r=>rw [yhp]; exact b.la
theorem Back.stop{ls:y8}{start:Int}{t:yW}{place:Int}{r:List Int}{i:Nat}(R:Reach ls start t)(b:Back ls t place r i){c:Int}(hc:r.head? =some c)(hp:look t c=some none):c=start:=by
 obtain⟨c',o,hi,hc'⟩:=b.ix
 rw [hc] at hc'
 have ec:c=c':=Option.some.inj hc'
 subst ec
 have eo:=qO R.nd hi
 rw [hp] at eo
 have e1:o=none:=(Option.some.inj eo).symm
 subst e1
 rcases yh1 i with z | z
 ·subst z
  rw [R.head] at hi
  exact(congrArg Prod.fst (Option.some.inj hi)).symm
 ·obtain⟨_,_,_,e2,_⟩:=R.par i c none hi z
  cases e2
structure WalkOk (ls:y8) (r:List Int) (one other:Int):Prop where
 head:r.head? =some one
 last:r.getLast? =some other
 nd:r.Nodup
 steps:zk ls r
structure WallOk (n:Int) (ls:y8) (r:List Int) (one other:Int):Prop where
 up:r.Pairwise (· < ·)
 rg:∀x ∈ r,0≤x∧x < n
 one_in:one ∈ r
 other_out:other ∉ r
 shut:∀p ∈ ls,p.1 ∈ r→p.2 ∈ r
theorem Back.walk{ls:y8}{start:Int}{t:yW}{place:Int}{r:List Int}{i:Nat}(R:Reach ls start t)(b:Back ls t place r i){c:Int}(hc:r.head? =some c)(hp:look t c=some none):WalkOk ls r start place:=
 ⟨by rw [←b.stop R hc hp]; exact hc,b.la,b.nd,b.ch⟩
theorem Zv{l:List Int}(h:l.Pairwise (· ≤ ·))(nd:l.Nodup):l.Pairwise (· < ·):=by
 have q:=h.and nd
 exact q.imp fun {a b} ⟨h1,h2⟩=>by
  have:a ≠ b:=h2
  omega
theorem y1d{n:Int}{ls:y8}{start other:Int}{t:yW}{r:List Int}(R:Reach ls start t)(D:jJ ls t t.length)(hs:0≤start∧start < n)(hl:∀p ∈ ls,(0≤p.1∧p.1 < n)∧(0≤p.2∧p.2 < n))(hr:r.Perm (keys t))(hp:r.Pairwise (· ≤ ·))
  (ho:other ∉ keys t):WallOk n ls r start other:=by
 have nd:r.Nodup:=hr.nodup_iff.mpr R.nd
 refine⟨Zv hp nd,fun x hx=>R.in_range hs hl x (hr.mem_iff.mp hx),hr.mem_iff.mpr R.start_mem,fun h=>ho (hr.mem_iff.mp h),fun p hp h=> ?_⟩
 exact hr.mem_iff.mpr (D.closed (a:=p.1) (b:=p.2) hp (hr.mem_iff.mp h))
inductive Rch (ps:y8) (s:Int):Int→Prop
 | here:Rch ps s s
 | step {a b:Int}:Rch ps s a→(a,b) ∈ ps→Rch ps s b
end Gra
namespace Gra
inductive Av (ps:y8) (s d:Int):Int→Prop
 | here:s ≠ d→Av ps s d s
 | step {a b:Int}:Av ps s d a→(a,b) ∈ ps→b ≠ d→Av ps s d b
theorem Av.ne{ps:y8}{s d x:Int}(h:Av ps s d x):x ≠ d:=by
 cases h with
 | here h=>exact h
 | step _ _ h=>exact h
theorem Av.start_ne{ps:y8}{s d x:Int}(h:Av ps s d x):s ≠ d:=by
 induction h with
 | here h=>exact h
 | step _ _ _ ih=>exact ih
def wol(ps:y8)(d:Int):y8:=ps.filter fun p=> !(decide (d ∈ [p.1,p.2]))
theorem qi{ps:y8}{d a b:Int}:(a,b) ∈ wol ps d↔(a,b) ∈ ps∧a ≠ d∧b ≠ d:=by
 unfold wol
 rw [yd0]
 simp only [yh6,decide_eq_false_iff_not,ycg,yhj,or_false,not_or]
 exact⟨fun⟨h1,h2,h3⟩=>⟨h1,Ne.symm h2,Ne.symm h3⟩,fun⟨h1,h2,h3⟩=>⟨h1,Ne.symm h2,Ne.symm h3⟩⟩
theorem ybf{ps:y8}{s d x:Int}(hs:s ≠ d):Rch (wol ps d) s x↔Av ps s d x:=by
 constructor
 ·intro h
  induction h with
  | here=>exact .here hs
  | step _ hl ih=>exact .step ih (qi.mp hl).1 (qi.mp hl).2.2
 ·intro h
  induction h with
  | here _=>exact .here
  | step h hl hb ih=>exact .step ih (qi.mpr ⟨hl,h.ne,hb⟩)
def Y4(ps:y8)(s d x:Int):Prop:=Rch ps s x∧¬Av ps s d x
theorem Y4.start{ps:y8}{s x:Int}(h:Rch ps s x):Y4 ps s s x:=⟨h,fun a=>a.start_ne rfl⟩
theorem Y4.self{ps:y8}{s x:Int}(h:Rch ps s x):Y4 ps s x x:=⟨h,fun a=>a.ne rfl⟩
theorem yb7{ps:y8}{s d x:Int}(h:Rch ps s x):Av ps s d x∨Rch ps s d:=by
 induction h with
 | here=>
  by_cases c:s=d
  ·right; rw [←c]; exact .here
  ·exact .inl (.here c)
 | @step a b h hl ih=>
  rcases ih with i | i
  ·by_cases c:b=d
   ·right; rw [←c]; exact .step h hl
   ·exact .inl (.step i hl c)
  ·exact .inr i
theorem Y4.rch{ps:y8}{s d x:Int}(h:Y4 ps s d x):Rch ps s d:=(yb7 h.1).resolve_left h.2
theorem av_or{ps:y8}{s d e x:Int}(h:Av ps s d x):Av ps s e x∨Av ps s d e:=by
 induction h with
 | here h=>
  by_cases c:s=e
  ·right; rw [←c]; exact .here h
  ·exact .inl (.here c)
 | @step a b h hl hb ih=>
  rcases ih with i | i
  ·by_cases c:b=e
   ·right; rw [←c]; exact .step h hl hb
   ·exact .inl (.step i hl c)
  ·exact .inr i
theorem Y4.trans{ps:y8}{s d e x:Int}(h:Y4 ps s d e)(h':Y4 ps s e x):Y4 ps s d x:=
 ⟨h'.1,fun a=>(av_or (e:=e) a).elim h'.2 h.2⟩
theorem Y4.antisymm{ps:y8}{s d e:Int}(h:Y4 ps s d e)(h':Y4 ps s e d):d=e:=by
 by_cases ne:d=e
 ·exact ne
 exfalso
 have key:∀x,Rch ps s x→(Av ps s d x∧Av ps s e x)∨Av ps s e d∨Av ps s d e:=by
  intro x hx
  induction hx with
  | here=>
   by_cases c:s=d
   ·right; left; rw [←c]; exact .here fun z=>ne (c.symm.trans z)
   ·by_cases c':s=e
    ·right; right; rw [←c']; exact .here c
    ·exact .inl ⟨.here c, .here c'⟩
  | @step a b _ hl ih=>
   rcases ih with⟨i,j⟩ | i
   ·by_cases c:b=d
    ·right; left; rw [←c]; exact .step j hl fun z=>ne (c.symm.trans z)
    ·by_cases c':b=e
     ·right; right; rw [←c']; exact .step i hl c
     ·exact .inl ⟨.step i hl c, .step j hl c'⟩
   ·exact .inr i
 rcases key d h'.1 with⟨a,_⟩ | a | a
 ·exact a.ne rfl
 ·exact h'.2 a
 ·exact h.2 a
theorem Y4.total{ps:y8}{s d e x:Int}(h:Y4 ps s d x)(h':Y4 ps s e x):Y4 ps s d e∨Y4 ps s e d:=by
 by_cases ne:d=e
 ·left; rw [←ne]; exact Y4.self h.rch
 by_cases c1:Av ps s d e
 ·by_cases c2:Av ps s e d
  ·exfalso
   have key:∀y,Rch ps s y→Av ps s d y∨Av ps s e y:=by
    intro y hy
    induction hy with
    | here=>
     by_cases c:s=d
     ·exact .inr (.here fun z=>ne (c.symm.trans z))
     ·exact .inl (.here c)
    | @step a b _ hl ih=>
     rcases ih with i | i
     ·by_cases c:b=d
      ·rw [c]; exact .inr c2
      ·exact .inl (.step i hl c)
     ·by_cases c:b=e
      ·rw [c]; exact .inl c1
      ·exact .inr (.step i hl c)
   exact(key x h.1).elim h.2 h'.2
  ·exact .inr ⟨h.rch,c2⟩
 ·exact .inl ⟨h'.rch,c1⟩
structure Musts (ps:y8) (s x:Int) (ms:List Int):Prop where
 nd:ms.Nodup
 mem:∀d,d ∈ ms↔Y4 ps s d x
theorem Musts.lt{ps:y8}{s d e:Int}{ms ns:List Int}(hm:Musts ps s d ms)(hn:Musts ps s e ns)(h:Y4 ps s d e)(ne:d ≠ e):ms.length < ns.length:=by
 have he:e ∉ ms:=fun m=>ne (Y4.antisymm h ((hm.mem e).mp m))
 have q:=length_le_of_subset (l:=e :: ms) (m:=ns) (ydk.mpr ⟨he,hm.nd⟩) fun x hx=>by
  rcases ycg.mp hx with c | c
  ·rw [c]; exact(hn.mem e).mpr (Y4.self h.1)
  ·exact(hn.mem x).mpr (((hm.mem x).mp c).trans h)
 rw [yct] at q
 omega
structure MustRow (ps:y8) (s x:Int) (row:List Int):Prop where
 nd:row.Nodup
 mem:∀d,d ∈ row↔Y4 ps s d x
 up:row.Pairwise (Y4 ps s)
theorem ZI{R:Int→Int→Prop}(anti:∀a b,R a b→R b a→a=b):∀{l m:List Int},l.Nodup→m.Nodup→(∀x,x ∈ l↔x ∈ m)→l.Pairwise R→m.Pairwise R→l=m
 | [], [],_,_,_,_,_=>rfl
 | [],b :: m,_,_,h,_,_=>by have:=(h b).mpr yc8; cases this
 | a :: l, [],_,_,h,_,_=>by have:=(h a).mp yc8; cases this
 | a :: l,b :: m,n1,n2,h,p1,p2=>by
  obtain⟨x1,x2⟩:=ydk.mp n1
  obtain⟨y1,y2⟩:=ydk.mp n2
  obtain⟨q1,q2⟩:=yg8.mp p1
  obtain⟨r1,r2⟩:=yg8.mp p2
  have e:a=b:=by
   rcases ycg.mp ((h a).mp yc8) with c | c
   ·exact c
   rcases ycg.mp ((h b).mpr yc8) with c' | c'
   ·exact c'.symm
   exact anti a b (q1 b c') (r1 a c)
  subst e
  refine congrArg (a :: ·) (ZI anti x2 y2 (fun x=> ?_) q2 r2)
  constructor
  ·intro hx
   rcases ycg.mp ((h x).mp (yc9 _ hx)) with c | c
   ·exact absurd (c ▸ hx) x1
   ·exact c
  ·intro hx
   rcases ycg.mp ((h x).mpr (yc9 _ hx)) with c | c
   ·exact absurd (c ▸ hx) y1
   ·exact c
end Gra
namespace Gra
theorem Y9{ps:y8}{a b c:Int}(h:Rch ps a b)(h':Rch ps b c):Rch ps a c:=by
 induction h' with
 | here=>exact h
 | step _ hl ih=>exact .step ih hl
theorem zS{ps qs:y8}(h:∀p ∈ ps,p ∈ qs){a b:Int}(r:Rch ps a b):Rch qs a b:=by
 induction r with
 | here=>exact .here
 | step _ hl ih=>exact .step ih (h _ hl)
theorem ZM{ps:y8}{a b:Int}(h:(a,b) ∈ ps):Rch ps a b:= .step .here h
theorem x6{ps:y8}:∀{r:List Int} {a b:Int},zk ps r→r.head? =some a→r.getLast? =some b→Rch ps a b
 | [],_,_,_,h,_=>by cases h
 | [x],a,b,_,h,h2=>by
  have e1:x=a:=by simpa using h
  have e2:x=b:=by simpa using h2
  rw [←e1,←e2]; exact .here
 | x :: y :: r,a,b,s,h,h2=>by
  have e1:x=a:=by simpa using h
  rw [←e1]
  exact Y9 (ZM s.1) (x6 (r:=y :: r) s.2 rfl (by rw [yhp] at h2; exact h2))
theorem Qe{ps:y8}{r:List Int}{a b:Int}(W:WalkOk ps r a b):Rch ps a b:=x6 W.steps W.head W.last
theorem WE{n:Int}{ps:y8}{r:List Int}{a b:Int}(W:WallOk n ps r a b):¬Rch ps a b:=fun h=>by
 have:∀x,Rch ps a x→x ∈ r:=fun x hx=>by
  induction hx with
  | here=>exact W.one_in
  | step _ hl ih=>exact W.shut _ hl ih
 exact W.other_out (this b h)
def swap(p:Int × Int):Int × Int:=(p.2,p.1)
def bw(ps:y8):y8:=ps ++ ps.map swap
theorem Zy{ps:y8}{a b:Int}:(a,b) ∈ bw ps↔(a,b) ∈ ps∨(b,a) ∈ ps:=by
 unfold bw
 rw [ycw,ycf]
 constructor
 ·rintro(h | ⟨q,hq,e⟩)
  ·exact .inl h
  ·have:q=(b,a):=by
    cases q
    simp only [swap,Prod.mk.injEq] at e
    rw [e.1,e.2]
   exact .inr (this ▸ hq)
 ·rintro(h | h)
  ·exact .inl h
  ·exact .inr ⟨_,h,rfl⟩
theorem yb1{ps:y8}{a b:Int}(h:(a,b) ∈ bw ps):(b,a) ∈ bw ps:=Zy.mpr (Zy.mp h).symm
theorem y9e{ps:y8}{a b:Int}(h:Rch (bw ps) a b):Rch (bw ps) b a:=by
 induction h with
 | here=>exact .here
 | step _ hl ih=>exact Y9 (ZM (yb1 hl)) ih
theorem y0q{ps qs:y8}(h:∀p ∈ ps,p ∈ qs):∀p ∈ bw ps,p ∈ bw qs:=fun p hp=>by
 obtain⟨a,b⟩:=p
 exact Zy.mpr ((Zy.mp hp).imp (h _) (h _))
def wok(ps:y8)(k:Nat):y8:=ps.take k ++ ps.drop (k + 1)
theorem y9z{ps:y8}{k:Nat}:∀p ∈ wok ps k,p ∈ ps:=fun p hp=>by
 rcases ycw.mp hp with h | h
 ·exact yig h
 ·exact List.mem_of_mem_drop h
theorem y9b{ps:y8}{k:Nat}:(wok ps k).length≤ps.length:=by
 unfold wok
 rw [ycr,yd4,ydt]
 omega
theorem y62{ps:y8}{k:Nat}:∀p ∈ ps.take k,p ∈ wok ps k:=fun _ h=>yde _ h
def Grp(qs:y8)(G:List Int):Prop:=∀(i j:Nat) (x:Int),G[i]? =some x→G[j]? =some x→Rch (bw qs) (i:Int) (j:Int)
theorem y2z(n:Nat)(qs:y8):Grp qs ((ycd n).map fun k=>((k:Nat):Int)):=fun i j x hi hj=>by
 rw [yca] at hi hj
 have f:∀{i:Nat},((ycd n)[i]?).map (fun k=>((k:Nat):Int))=some x→(i:Int)=x:=fun {i} h=>by
  by_cases c:i < n
  ·rw [ydu c] at h
   exact Option.some.inj h
  ·rw [yd6 (by rw [yd2]; omega)] at h
   cases h
 rw [f hi,f hj]
 exact .here
theorem WC{qs:y8}{G:List Int}(g:Grp qs G)(p:Int × Int):Grp (qs ++ [p]) G:=fun i j x hi hj=>
 zS (y0q fun _ h=>yde _ h) (g i j x hi hj)
theorem y6w{qs:y8}{G:List Int}(g:Grp qs G){a b:Nat}{kp mg:Int}(ha:G[a]? =some kp)(hb:G[b]? =some mg):Grp (qs ++ [((a:Int),(b:Int))]) (G.map fun x=>if x=mg then kp else x):=fun i j y hi hj=>by
 have up:∀{i j:Nat} {x:Int},G[i]? =some x→G[j]? =some x→Rch (bw (qs ++ [((a:Int),(b:Int))])) (i:Int) (j:Int):=fun {i j x} h1 h2=>WC g _ i j x h1 h2
 have tie:Rch (bw (qs ++ [((a:Int),(b:Int))])) (a:Int) (b:Int):=ZM (Zy.mpr (.inl (ycx _ yc8)))
 rw [yca] at hi hj
 cases ei:G[i]? with
 | none=>rw [ei] at hi; cases hi
 | some u=>
  cases ej:G[j]? with
  | none=>rw [ej] at hj; cases hj
  | some v=>
   rw [ei] at hi
   rw [ej] at hj
   have hi':(if u=mg then kp else u)=y:=Option.some.inj hi
   have hj':(if v=mg then kp else v)=y:=Option.some.inj hj
   by_cases cu:u=mg
   ·rw [if_pos cu] at hi'
    subst cu
    by_cases cv:v=u
    ·subst cv; exact up ei ej
    ·rw [if_neg cv] at hj'
     rw [←hi'] at hj'
     subst hj'
     exact Y9 (up ei hb) (Y9 (y9e tie) (up ha ej))
   ·rw [if_neg cu] at hi'
    by_cases cv:v=mg
    ·rw [if_pos cv] at hj'
     subst cv
     rw [←hj'] at hi'
     subst hi'
     exact Y9 (up ei ha) (Y9 tie (up hb ej))
    ·rw [if_neg cv] at hj'
     rw [←hj'] at hi'
     subst hi'
     exact up ei ej
theorem y6d{ps:y8}{k:Nat}{G:List Int}(g:Grp (ps.take k) G){a b:Nat}{x:Int}(ha:G[a]? =some x)(hb:G[b]? =some x):Rch (bw (wok ps k)) (a:Int) (b:Int):=
 zS (y0q y62) (g a b x ha hb)
open Classical in
noncomputable def jx (ps:y8) (k:Nat):Bool:=match ps[k]? with
 | some p=> !decide (Rch (bw (wok ps k)) p.1 p.2)
 | none=>false
theorem y4z{ps:y8}{k:Nat}{p:Int × Int}(h:ps[k]? =some p)(c:¬Rch (bw (wok ps k)) p.1 p.2):jx ps k=true:=by
 unfold jx; rw [h]; simp [c]
theorem QQ{ps:y8}{k:Nat}{p:Int × Int}(h:ps[k]? =some p)(c:Rch (bw (wok ps k)) p.1 p.2):jx ps k=false:=by
 unfold jx; rw [h]; simp [c]
end Gra
namespace Gra
theorem MG{ps:y8}{s d:Int}(h:Y4 ps s d s):d=s:=by
 by_cases c:s=d
 ·exact c.symm
 ·exact absurd (Av.here c) h.2
theorem y5o{ps:y8}{s d a b:Int}(h:Y4 ps s d b)(hl:(a,b) ∈ ps)(ha:Rch ps s a)(ne:d ≠ b):Y4 ps s d a:=
 ⟨ha,fun v=>h.2 (.step v hl (Ne.symm ne))⟩
theorem W4{ps:y8}{s:Int}{t:yW}(R:Reach ps s t):∀(i:Nat) (x:Int) (o:Option Int),t[i]? =some (x,o)→Rch ps s x:=by
 intro i
 induction i using ygs with
 | ind i ih=>
  intro x o h
  by_cases c:0 < i
  ·obtain⟨p,j,o',_,hj,hp,hl⟩:=R.par i x o h c
   exact .step (ih j hj p o' hp) hl
  ·have e:i=0:=by omega
   subst e
   rw [R.head] at h
   cases h
   exact .here
theorem y5l{ps:y8}{s:Int}{t:yW}(R:Reach ps s t)(d:Int):∀(i:Nat) (x:Int) (o:Option Int),t[i]? =some (x,o)→Y4 ps s d x→∃j o',j≤i∧t[j]? =some (d,o'):=by
 intro i
 induction i using ygs with
 | ind i ih=>
  intro x o h m
  by_cases e:d=x
  ·subst e; exact⟨i,o,yc6 _,h⟩
  by_cases c:0 < i
  ·obtain⟨p,j,o',_,hj,hp,hl⟩:=R.par i x o h c
   obtain⟨j',o'',h1,h2⟩:=ih j hj p o' hp (y5o m hl (W4 R j p o' hp) e)
   exact⟨j',o'',by omega,h2⟩
  ·have e0:i=0:=by omega
   subst e0
   rw [R.head] at h
   cases h
   exact absurd (MG m) e
theorem VI{ps:y8}{s:Int}{t:yW}(R:Reach ps s t)(D:jJ ps t t.length){x:Int}:x ∈ keys t↔Rch ps s x:=by
 constructor
 ·intro h
  obtain⟨i,o,hi⟩:=jK.mp h
  exact W4 R i x o hi
 ·intro h
  induction h with
  | here=>exact R.start_mem
  | step _ hl ih=>exact D.closed hl ih
structure Lead (ps:y8) (s x d:Int):Prop where
 ne:d ≠ x
 must:Y4 ps s d x
 last:∀e,Y4 ps s e x→e ≠ x→Y4 ps s e d
theorem y9n{ps:y8}{s:Int}{t:yW}(R:Reach ps s t){x d:Int}(hd:Y4 ps s d x)(ne:d ≠ x){i:Nat}(hi:(keys t)[i]? =some d)(hx:∀(j:Nat) (e:Int),(keys t)[j]? =some e→Y4 ps s e x→e ≠ x→j≤i)(hR:∀e,Rch ps s e→e ∈ keys t):Lead ps s x d:=by
 refine⟨ne,hd,fun e he hne=> ?_⟩
 rcases he.total hd with c | c
 ·exact c
 ·
  obtain⟨j,hj⟩:=yd1.mp (hR e he.rch)
  have h1:=hx j e hj he hne
  have g:∀(k:Nat) (y:Int),(keys t)[k]? =some y→∃o,t[k]? =some (y,o):=fun k y h=>by
   unfold keys at h
   rw [yca] at h
   cases q:t[k]? with
   | none=>rw [q] at h; cases h
   | some u=>rw [q] at h; exact⟨u.2,by cases u; simp at h; rw [←h]⟩
  obtain⟨o,ho⟩:=g j e hj
  obtain⟨o2,ho2⟩:=g i d hi
  obtain⟨k,o',hk,hd'⟩:=y5l R d j e o ho c
  have:k=i:=y40 R.nd hd' ho2
  have:j=i:=by omega
  subst this
  rw [ho] at ho2
  cases ho2
  exact Y4.self hd.rch
theorem xY{ps:y8}{s:Int}:MustRow ps s s [s]:=
 ⟨by simp,fun d=>⟨fun h=>by rw [ycb.mp h]; exact Y4.self .here,fun h=>by rw [MG h]; exact yc8⟩,yfh _ _⟩
theorem W5{ps:y8}{s x d:Int}{row:List Int}(h:MustRow ps s d row)(l:Lead ps s x d):MustRow ps s x (row ++ [x]):=by
 have hx:x ∉ row:=fun m=>l.ne (Y4.antisymm l.must ((h.mem x).mp m))
 refine⟨?_,fun e=> ?_, ?_⟩
 ·rw [yel]
  exact⟨h.nd,by simp,fun a ha b hb=>by rw [ycb.mp hb]; rintro rfl; exact hx ha⟩
 ·rw [ycw,ycb]
  constructor
  ·rintro(m | m)
   ·exact((h.mem e).mp m).trans l.must
   ·rw [m]; exact Y4.self l.must.1
  ·intro m
   by_cases c:e=x
   ·exact .inr c
   ·exact .inl ((h.mem e).mpr (l.last e m c))
 ·rw [List.pairwise_append]
  exact⟨h.up,yfh _ _,fun a ha b hb=>by rw [ycb.mp hb]; exact((h.mem a).mp ha).trans l.must⟩
theorem y0c{ps:y8}{s x:Int}(h:Rch (wol ps s) s x):x=s:=by
 induction h with
 | here=>rfl
 | step _ hl ih=>exact absurd ih (qi.mp hl).2.1
theorem xH{ps:y8}{s g x:Int}(hx:Rch ps s x):(¬Rch (wol ps g) s x∧x ≠ g)↔(Y4 ps s g x∧g ≠ x):=by
 by_cases c:s=g
 ·subst c
  exact⟨fun h=>⟨Y4.start hx,Ne.symm h.2⟩,fun h=>⟨fun r=>h.2 (y0c r).symm,Ne.symm h.2⟩⟩
 ·rw [ybf c]
  exact⟨fun h=>⟨⟨hx,h.1⟩,Ne.symm h.2⟩,fun h=>⟨h.1.2,Ne.symm h.2⟩⟩
def V0(ps:y8)(s:Int)(es:List Int)(x:Int)(o:Option Int):Prop:=
 (o=none∧∀e ∈ es,¬(Y4 ps s e x∧e ≠ x))∨∃d j,o=some d∧es[j]? =some d∧Y4 ps s d x∧d ≠ x∧∀(k:Nat) (e:Int),es[k]? =some e→Y4 ps s e x→e ≠ x→k≤j
theorem y7z(ps:y8)(s x:Int):V0 ps s [] x none:= .inl ⟨rfl,fun _ h=>by cases h⟩
theorem y6l{ps:y8}{s x g:Int}{es:List Int}(h:Y4 ps s g x)(ne:g ≠ x):V0 ps s (es ++ [g]) x (some g):=by
 refine .inr ⟨g,es.length,rfl,by simp,h,ne,fun k e he _ _=> ?_⟩
 have:=(yc5.mp he).1
 rw [ycr,yd5] at this
 omega
theorem y0l{ps:y8}{s x g:Int}{es:List Int}{o:Option Int}(h:V0 ps s es x o)(no:¬(Y4 ps s g x∧g ≠ x)):V0 ps s (es ++ [g]) x o:=by
 rcases h with⟨e,h⟩ | ⟨d,j,e,hj,hm,ne,hl⟩
 ·refine .inl ⟨e,fun y hy=> ?_⟩
  rcases ycw.mp hy with m | m
  ·exact h y m
  ·rw [ycb.mp m]; exact no
 ·have hjl:=(yc5.mp hj).1
  refine .inr ⟨d,j,e,by rw [ycu hjl]; exact hj,hm,ne,fun k y hk h1 h2=> ?_⟩
  by_cases c:k < es.length
  ·rw [ycu c] at hk
   exact hl k y hk h1 h2
  ·have hk2:=(yc5.mp hk).1
   rw [ycr,yd5] at hk2
   have e2:k=es.length:=by omega
   subst e2
   have:g=y:=by simpa using hk
   subst this
   exact absurd ⟨h1,h2⟩ no
def QK(ps:y8)(s x:Int)(o:Option Int):Prop:=(o=none∧(Rch ps s x→x=s))∨∃d,o=some d∧Rch ps s x∧x ≠ s∧Lead ps s x d
theorem y37{ps:y8}{s x:Int}{t:yW}{o:Option Int}(R:Reach ps s t)(D:jJ ps t t.length)(h:V0 ps s (keys t) x o):QK ps s x o:=by
 rcases h with⟨e,h⟩ | ⟨d,j,e,hj,hm,ne,hl⟩
 ·refine .inl ⟨e,fun r=> ?_⟩
  by_cases c:x=s
  ·exact c
  ·exact absurd ⟨Y4.start r,Ne.symm c⟩ (h s R.start_mem)
 ·refine .inr ⟨d,e,hm.1,fun z=> ?_,y9n R hm ne hj hl fun y hy=>(VI R D).mpr hy⟩
  subst z
  exact ne (MG hm)
open Classical in
noncomputable def mus (n:Nat) (ps:y8) (s c:Int):List Int:=((ycd n).map fun k=>((k:Nat):Int)).filter fun d=>decide (Y4 ps s d c)
theorem M9{n:Int}{ps:y8}{s d:Int}(hs:0≤s∧s < n)(hin:∀p ∈ ps,(0≤p.1∧p.1 < n)∧(0≤p.2∧p.2 < n))(h:Rch ps s d):0≤d∧d < n:=by
 cases h with
 | here=>exact hs
 | step _ hl=>exact(hin _ hl).2
open Classical in
theorem mus_ok{n:Nat}{ps:y8}{s c:Int}(hs:0≤s∧s < (n:Int))(hin:∀p ∈ ps,(0≤p.1∧p.1 < (n:Int))∧(0≤p.2∧p.2 < (n:Int))):Musts ps s c (mus n ps s c):=by
 unfold mus
 refine⟨yep.sublist yg3 ?_,fun d=> ?_⟩
 ·rw [ydx]
  exact yfp.imp fun {a b} h z=>by omega
 ·rw [yd0]
  constructor
  ·intro h
   exact of_decide_eq_true h.2
  ·intro h
   have:=M9 hs hin h.rch
   exact⟨ycf.mpr ⟨d.toNat,ycs.mpr (by omega),by omega⟩,decide_eq_true h⟩
theorem yan{n:Nat}{ps:y8}{s c d:Int}(hs:0≤s∧s < (n:Int))(hin:∀p ∈ ps,(0≤p.1∧p.1 < (n:Int))∧(0≤p.2∧p.2 < (n:Int)))(l:Lead ps s c d):(mus n ps s d).length < (mus n ps s c).length:=
 Musts.lt (mus_ok hs hin) (mus_ok hs hin) l.must l.ne
end Gra
namespace Gra
def YB(n:Nat):List Int:=(ycd n).map fun k=>((k:Nat):Int)
theorem YF{n:Nat}{x:Int}:x ∈ YB n↔0≤x∧x < n:=by
 unfold YB
 rw [ycf]
 constructor
 ·rintro⟨k,hk,rfl⟩
  have:=ycs.mp hk
  omega
 ·rintro⟨h1,h2⟩
  exact⟨x.toNat,ycs.mpr (by omega),by omega⟩
theorem xh(n:Nat):(YB n).Pairwise (· < ·):=by
 unfold YB
 rw [ydx]
 exact yfp.imp fun {a b} h=>by omega
theorem ZE(n:Nat):(YB n).Nodup:=(xh n).imp fun {a b} h=>by
 have:a < b:=h
 intro z; omega
theorem y2c(n:Nat):(YB n).length=n:=by
 unfold YB
 rw [yc2,yd2]
def RK(n:Nat)(ps:y8)(R:Int→List Int):Prop:=∀x:Int,0≤x→x < (n:Int)→(R x).Nodup∧∀y,y ∈ R x↔Rch ps x y
def scB(R:Int→List Int)(x y:Int):Bool:=decide (y ∈ R x) && decide (x ∈ R y)
def Y3(n:Nat)(R:Int→List Int)(x:Int):List Int:=(YB n).filter (scB R x)
def Ji(n:Nat)(R:Int→List Int)(x:Int):Bool:=decide ((Y3 n R x).head? =some x)
def jb(n:Nat)(R:Int→List Int):List (List Int):=((YB n).filter (Ji n R)).map (Y3 n R)
section
variable{n:Nat}{ps:y8}{R:Int→List Int}
theorem Jz(h:RK n ps R){x y:Int}(hx:0≤x∧x < n):y ∈ Y3 n R x↔(0≤y∧y < n)∧Rch ps x y∧Rch ps y x:=by
 unfold Y3 scB
 rw [yd0,YF,yeo,decide_eq_true_iff,decide_eq_true_iff]
 constructor
 ·rintro⟨h1,h2,h3⟩
  exact⟨h1,((h x hx.1 hx.2).2 y).mp h2,((h y h1.1 h1.2).2 x).mp h3⟩
 ·rintro⟨h1,h2,h3⟩
  exact⟨h1,((h x hx.1 hx.2).2 y).mpr h2,((h y h1.1 h1.2).2 x).mpr h3⟩
theorem xz(h:RK n ps R){x:Int}(hx:0≤x∧x < n):x ∈ Y3 n R x:=(Jz h hx).mpr ⟨hx, .here, .here⟩
theorem y19(n:Nat)(R:Int→List Int)(x:Int):(Y3 n R x).Pairwise (· < ·):=(xh n).sublist yg3
theorem qG(h:RK n ps R){x y:Int}(hx:0≤x∧x < n)(hy:y ∈ Y3 n R x):Y3 n R y=Y3 n R x:=by
 obtain⟨hy0,h1,h2⟩:=(Jz h hx).mp hy
 unfold Y3
 refine yh7 fun z hz=> ?_
 have hz0:=YF.mp hz
 have e:∀{u:Int} (_:0≤u∧u < n),scB R u z=true↔Rch ps u z∧Rch ps z u:=fun {u} hu=>by
  unfold scB
  rw [yeo,decide_eq_true_iff,decide_eq_true_iff,(h u hu.1 hu.2).2 z,(h z hz0.1 hz0.2).2 u]
 have:scB R y z=true↔scB R x z=true:=by
  rw [e hy0,e hx]
  exact⟨fun q=>⟨Y9 h1 q.1,Y9 q.2 h2⟩,fun q=>⟨Y9 h2 q.1,Y9 q.2 h1⟩⟩
 cases c:scB R x z with
 | true=>exact this.mpr c
 | false=>
  cases c':scB R y z with
  | false=>rfl
  | true=>rw [this.mp c'] at c; cases c
theorem xu(h:RK n ps R){x:Int}(hx:0≤x∧x < n):∃y,(Y3 n R x).head? =some y∧y ∈ Y3 n R x:=by
 cases e:Y3 n R x with
 | nil=>have:=xz h hx; rw [e] at this; cases this
 | cons y l=>exact⟨y,rfl,yc8⟩
theorem Z1(h:RK n ps R){p:List Int}:p ∈ jb n R↔∃x:Int,(0≤x∧x < n)∧p=Y3 n R x∧p.head? =some x:=by
 unfold jb Ji
 rw [ycf]
 constructor
 ·rintro⟨x,hx,rfl⟩
  obtain⟨h1,h2⟩:=yd0.mp hx
  exact⟨x,YF.mp h1,rfl,of_decide_eq_true h2⟩
 ·rintro⟨x,hx,rfl,hh⟩
  exact⟨x,yd0.mpr ⟨YF.mpr hx,decide_eq_true hh⟩,rfl⟩
theorem y4x(h:RK n ps R){x:Int}(hx:0≤x∧x < n):Y3 n R x ∈ jb n R:=by
 obtain⟨y,hy,hm⟩:=xu h hx
 have hy0:=((Jz h hx).mp hm).1
 exact(Z1 h).mpr ⟨y,hy0,(qG h hx hm).symm,hy⟩
theorem y1y(h:RK n ps R):(jb n R).Pairwise fun a b=>∀x ∈ a,x ∉ b:=by
 unfold jb
 rw [ydx]
 have nd:((YB n).filter (Ji n R)).Nodup:=(ZE n).sublist yg3
 refine(yep.and_mem.mp nd).imp fun {a b} ⟨ha,hb,ne⟩ x hxa hxb=> ?_
 obtain⟨a1,a2⟩:=yd0.mp ha
 obtain⟨b1,b2⟩:=yd0.mp hb
 have e1:=qG h (YF.mp a1) hxa
 have e2:=qG h (YF.mp b1) hxb
 have q1:(Y3 n R a).head? =some a:=of_decide_eq_true a2
 have q2:(Y3 n R b).head? =some b:=of_decide_eq_true b2
 rw [←e1,e2,q2] at q1
 exact ne (Option.some.inj q1).symm
end
structure PartsOk (n:Nat) (ps:y8) (F:List (List Int)):Prop where
 ne:∀p ∈ F,p ≠ []
 up:∀p ∈ F,p.Pairwise (· < ·)
 rg:∀p ∈ F,∀x ∈ p,0≤x∧x < n
 sc:∀p ∈ F,∀x ∈ p,∀y ∈ p,Rch ps x y
 nd:F.flatten.Nodup
 all:∀x:Int,0≤x→x < n→x ∈ F.flatten
 ord:∀a b,(a,b) ∈ ps→∀(i j:Nat) (p q:List Int),F[i]? =some p→F[j]? =some q→a ∈ p→b ∈ q→i≤j
 wide:∀p ∈ F,∀x ∈ p,∀y:Int,0≤y→y < n→Rch ps x y→Rch ps y x→y ∈ p
theorem MX{α:Type}:∀{F:List (List α)} {i j:Nat} {p q:List α} {x:α},F.flatten.Nodup→F[i]? =some p→F[j]? =some q→x ∈ p→x ∈ q→i=j
 | [],i,_,_,_,_,_,h,_,_,_=>by simp at h
 | r :: F,0,0,_,_,_,_,_,_,_,_=>rfl
 | r :: F,0,j + 1,p,q,x,nd,hi,hj,hp,hq=>by
  rw [yec,yel] at nd
  have e:r=p:=by simpa using hi
  subst e
  exact absurd rfl (nd.2.2 x hp x (yg0.mpr ⟨q,yce (by simpa using hj),hq⟩))
 | r :: F,i + 1,0,p,q,x,nd,hi,hj,hp,hq=>by
  rw [yec,yel] at nd
  have e:r=q:=by simpa using hj
  subst e
  exact absurd rfl (nd.2.2 x hq x (yg0.mpr ⟨p,yce (by simpa using hi),hp⟩))
 | r :: F,i + 1,j + 1,p,q,x,nd,hi,hj,hp,hq=>by
  rw [yec,yel] at nd
  rw [MX (F:=F) (i:=i) (j:=j) nd.2.1 (by simpa using hi) (by simpa using hj) hp hq]
theorem y67{n:Nat}{ps:y8}{R:Int→List Int}{F:List (List Int)}(h:RK n ps R)(hin:∀p ∈ ps,(0≤p.1∧p.1 < n)∧(0≤p.2∧p.2 < n))(hp:F.Perm (jb n R))(hs:F.Pairwise fun p q=>∀x y,p.head? =some x→q.head? =some y→(R y).length≤(R x).length):PartsOk n ps F:=by
 have form:∀p ∈ F,∃x:Int,(0≤x∧x < n)∧p=Y3 n R x∧p.head? =some x:=fun p hp'=>(Z1 h).mp (hp.mem_iff.mp hp')
 have nd:F.flatten.Nodup:=by
  have e:F.flatten.Perm (jb n R).flatten:=hp.flatten
  rw [e.nodup_iff]
  show yep _ _
  rw [List.pairwise_flatten]
  have ap:(jb n R).Pairwise fun a b=>∀x ∈ a,∀y ∈ b,x ≠ y:=(y1y h).imp fun {a b} q x hx y hy z=>q x hx (by rw [z]; exact hy)
  refine⟨fun l hl=> ?_,ap⟩
  obtain⟨x,_,rfl,_⟩:=(Z1 h).mp hl
  exact(y19 n R x).imp fun {a b} q=>by
   have:a < b:=q
   intro z; omega
 refine⟨fun p hp' z=> ?_,fun p hp'=> ?_,fun p hp' x hx=> ?_,fun p hp' x hx y hy=> ?_,nd,fun x h0 h1=> ?_,fun a b hab i j p q hi hj ha hb=> ?_,fun p hp' x hx y h0 h1 r1 r2=> ?_⟩
 ·obtain⟨x,_,_,e⟩:=form p hp'
  rw [z] at e; cases e
 ·obtain⟨x,_,rfl,_⟩:=form p hp'
  exact y19 n R x
 ·obtain⟨u,hu,rfl,_⟩:=form p hp'
  exact((Jz h hu).mp hx).1
 ·obtain⟨u,hu,rfl,_⟩:=form p hp'
  exact Y9 ((Jz h hu).mp hx).2.2 ((Jz h hu).mp hy).2.1
 ·exact yg0.mpr ⟨_,hp.mem_iff.mpr (y4x h ⟨h0,h1⟩),xz h ⟨h0,h1⟩⟩
 ·by_cases c:i≤j
  ·exact c
  exfalso
  obtain⟨u,hu,eu,hdu⟩:=form p (yce hi)
  obtain⟨v,hv,ev,hdv⟩:=form q (yce hj)
  have hlt:j < i:=by omega
  have hh:=by
   have:=yeq.mp hs j i (yc5.mp hj).1 (yc5.mp hi).1 hlt
   rw [(yc5.mp hj).2,(yc5.mp hi).2] at this
   exact this v u hdv hdu
  have ma:=(Jz h hu).mp (eu ▸ ha)
  have mb:=(Jz h hv).mp (ev ▸ hb)
  have huv:Rch ps u v:=Y9 ma.2.1 (Y9 (ZM hab) mb.2.2)
  have sub:∀x ∈ R v,x ∈ R u:=fun x hx=>((h u hu.1 hu.2).2 x).mpr (Y9 huv (((h v hv.1 hv.2).2 x).mp hx))
  have hvu:u ∈ R v:=by
   by_cases m:u ∈ R v
   ·exact m
   exfalso
   have:=length_le_of_subset (l:=u :: R v) (m:=R u) (ydk.mpr ⟨m,(h v hv.1 hv.2).1⟩) fun x hx=>by
    rcases ycg.mp hx with e | e
    ·rw [e]; exact((h u hu.1 hu.2).2 u).mpr .here
    ·exact sub x e
   rw [yct] at this
   omega
  have r2:Rch ps v u:=((h v hv.1 hv.2).2 u).mp hvu
  have:a ∈ q:=by
   rw [ev]
   exact(Jz h hv).mpr ⟨ma.1,Y9 r2 ma.2.1,Y9 ma.2.2 huv⟩
  have:=MX nd hi hj ha this
  omega
 ·obtain⟨u,hu,rfl,_⟩:=form p hp'
  have mx:=(Jz h hu).mp hx
  exact(Jz h hu).mpr ⟨⟨h0,h1⟩,Y9 mx.2.1 r1,Y9 r2 mx.2.2⟩
def YH(i:Nat):List (List Int)→List (Int × Int)
 | []=> []
 | p :: F=>p.map (fun x=>(x,((i:Nat):Int))) ++ YH (i + 1) F
theorem xC(p:List Int):∀(F:List (List Int)) (i:Nat),YH i (F ++ [p])=YH i F ++ p.map (fun x=>(x,((i + F.length:Nat):Int)))
 | [],i=>by simp [YH]
 | q :: F,i=>by
  show q.map _ ++ YH (i + 1) (F ++ [p])=(q.map _ ++ YH (i + 1) F) ++ _
  rw [xC p F (i + 1),yek,yct]
  have e:i + 1 + F.length=i + (F.length + 1):=by omega
  rw [e]
theorem Zk:∀(F:List (List Int)) (i:Nat),(YH i F).map (·.1)=F.flatten
 | [],_=>rfl
 | p :: F,i=>by
  show(p.map _ ++ YH (i + 1) F).map _=_
  rw [yci,Zk F (i + 1),ydg,yec]
  congr 1
  exact(ydv fun _ _=>rfl).trans (List.map_id _)
theorem Qf{x k:Int}:∀{F:List (List Int)} {i:Nat},(x,k) ∈ YH i F→∃j p,F[j]? =some p∧x ∈ p∧k=((i + j:Nat):Int)
 | [],_,h=>by cases h
 | p :: F,i,h=>by
  rcases ycw.mp h with h | h
  ·obtain⟨y,hy,e⟩:=ycf.mp h
   have e1:y=x:=congrArg Prod.fst e
   have e2:((i:Nat):Int)=k:=congrArg Prod.snd e
   exact⟨0,p,rfl,e1 ▸ hy,e2.symm⟩
  ·obtain⟨j,q,h1,h2,h3⟩:=Qf h
   exact⟨j + 1,q,by simpa using h1,h2,by rw [h3]; congr 1; omega⟩
theorem y81{n:Nat}{ps:y8}{F:List (List Int)}(h:PartsOk n ps F):F.flatten.length=n:=by
 have h1:=length_le_of_subset (m:=YB n) h.nd fun x hx=>by
  obtain⟨p,hp,hxp⟩:=yg0.mp hx
  exact YF.mpr (h.rg p hp x hxp)
 have h2:=length_le_of_subset (m:=F.flatten) (ZE n) fun x hx=>by
  have:=YF.mp hx
  exact h.all x this.1 this.2
 rw [y2c] at h1 h2
 omega
theorem Wb{α β:Type}{g:α→β}{zs ys:List β}(h:zs.Perm ys):∀L:List α,ys=L.map g→∃L':List α,L'.Perm L∧zs=L'.map g:=by
 induction h with
 | nil=>
  intro L e
  cases L with
  | nil=>exact⟨[], .refl _,rfl⟩
  | cons a l=>cases e
 | cons x _ ih=>
  intro L e
  cases L with
  | nil=>cases e
  | cons a l=>
   injection e with e1 e2
   obtain⟨L',h1,h2⟩:=ih l e2
   exact⟨a :: L',h1.cons a,by rw [ycv,←e1,←h2]⟩
 | swap x y l=>
  intro L e
  match L,e with
  | a :: b :: l',e=>
   injection e with e1 e2
   injection e2 with e2 e3
   exact⟨b :: a :: l', .swap ..,by rw [ycv,ycv,←e1,←e2,←e3]⟩
 | trans _ _ ih1 ih2=>
  intro L e
  obtain⟨L2,h1,h2⟩:=ih2 L e
  obtain⟨L1,h3,h4⟩:=ih1 L2 h2
  exact⟨L1,h3.trans h1,h4⟩
end Gra
namespace Gra
abbrev Prs:=List (Nat × Nat)
structure Depth (S:Prs) (D:Nat→Nat):Prop where
 one:∀j,1≤D j
 ge:∀i j,(i,j) ∈ S→D i + 1≤D j
 by_:∀j,D j=1∨∃i,(i,j) ∈ S∧D j=D i + 1
structure Rws (S done:Prs) (m:Nat) (W:Nat→List Nat):Prop where
 last:∀j,j < m→(W j).getLast? =some j
 chain:∀j,j < m→∀(k a b:Nat),(W j)[k]? =some a→(W j)[k + 1]? =some b→(a,b) ∈ S
 rng:∀j,j < m→∀x ∈ W j,x < m
 ge:∀i j,(i,j) ∈ done→(W i).length + 1≤(W j).length
 by_:∀j,j < m→(W j).length=1∨∃i,(i,j) ∈ done∧(W j).length=(W i).length + 1
theorem y4q(S:Prs)(m:Nat):Rws S [] m (fun j=> [j]):=
 ⟨fun _ _=>rfl,fun j _ k a b h h2=>by simp at h2,fun j hj x hx=>by rw [ycb.mp hx]; exact hj,fun _ _ h=>(by cases h),fun _ _=>Or.inl rfl⟩
def LU(W:Nat→List Nat)(p:Nat × Nat):Nat→List Nat:=if (W p.2).length≤(W p.1).length then fun k=>if k=p.2 then W p.1 ++ [p.2] else W k else W
theorem y7r{S done:Prs}{m:Nat}{W:Nat→List Nat}{p:Nat × Nat}(hp:p ∈ S)(hm:p.1 < m∧p.2 < m)(hlt:p.1 < p.2)(fin:∀i j,(i,j) ∈ done→i≤p.1)(up:∀i j,(i,j) ∈ done→i < j)(r:Rws S done m W):Rws S (done ++ [p]) m (LU W p):=by
 have ne1:p.1 ≠ p.2:=by omega
 unfold LU
 by_cases c:(W p.2).length≤(W p.1).length
 ·rw [if_pos c]
  have e1:∀k,k ≠ p.2→(if k=p.2 then W p.1 ++ [p.2] else W k)=W k:=fun k h=>if_neg h
  have e2:(if p.2=p.2 then W p.1 ++ [p.2] else W p.2)=W p.1 ++ [p.2]:=if_pos rfl
  have nl:∀i j,(i,j) ∈ done→i ≠ p.2:=fun i j h=>by have:=fin i j h; omega
  have len2:(W p.1 ++ [p.2]).length=(W p.1).length + 1:=by rw [ycr,yd5]
  refine⟨fun j hj=> ?_,fun j hj k a b h1 h2=> ?_,fun j hj x hx=> ?_,fun i j h=> ?_,fun j hj=> ?_⟩
  ·by_cases e:j=p.2
   ·subst e; rw [e2]; simp
   ·rw [e1 j e]; exact r.last j hj
  ·by_cases e:j=p.2
   ·subst e
    rw [e2] at h1 h2
    by_cases hk:k + 1 < (W p.1).length
    ·rw [ycu (by omega)] at h1
     rw [ycu hk] at h2
     exact r.chain p.1 hm.1 k a b h1 h2
    ·have hk2:k + 1 < (W p.1).length + 1:=by
      have:=(yc5.mp h2).1
      rwa [len2] at this
     have hk3:k + 1=(W p.1).length:=by omega
     rw [ycu (by omega)] at h1
     rw [ydz (by omega),hk3,ygu] at h2
     have eb:p.2=b:=by simpa using h2
     have el:=r.last p.1 hm.1
     rw [List.getLast?_eq_getElem?,←hk3] at el
     have el':(W p.1)[k]? =some p.1:=by simpa using el
     rw [el'] at h1
     have ea:p.1=a:=Option.some.inj h1
     rw [←ea,←eb]
     exact hp
   ·rw [e1 j e] at h1 h2; exact r.chain j hj k a b h1 h2
  ·by_cases e:j=p.2
   ·subst e
    rw [e2] at hx
    rcases ycw.mp hx with h | h
    ·exact r.rng p.1 hm.1 x h
    ·rw [ycb.mp h]; exact hm.2
   ·rw [e1 j e] at hx; exact r.rng j hj x hx
  ·rcases ycw.mp h with h | h
   ·rw [e1 i (nl i j h)]
    by_cases e:j=p.2
    ·subst e
     rw [e2,len2]
     have:=r.ge i p.2 h
     omega
    ·rw [e1 j e]; exact r.ge i j h
   ·have e:=ycb.mp h
    have ei:i=p.1:=congrArg Prod.fst e
    have ej:j=p.2:=congrArg Prod.snd e
    rw [ei,ej,e1 p.1 ne1,e2,len2]
    exact yc6 _
  ·by_cases e:j=p.2
   ·subst e
    refine .inr ⟨p.1,ycx _ yc8, ?_⟩
    rw [e2,e1 p.1 ne1,len2]
   ·rw [e1 j e]
    rcases r.by_ j hj with h | ⟨i,hi,h⟩
    ·exact .inl h
    ·exact .inr ⟨i,yde _ hi,by rw [e1 i (nl i j hi)]; exact h⟩
 ·rw [if_neg c]
  refine⟨r.last,r.chain,r.rng,fun i j h=> ?_,fun j hj=> ?_⟩
  ·rcases ycw.mp h with h | h
   ·exact r.ge i j h
   ·have e:=ycb.mp h
    have ei:i=p.1:=congrArg Prod.fst e
    have ej:j=p.2:=congrArg Prod.snd e
    rw [ei,ej]
    omega
  ·rcases r.by_ j hj with h | ⟨i,hi,h⟩
   ·exact .inl h
   ·exact .inr ⟨i,yde _ hi,h⟩
theorem xB{S done:Prs}{m:Nat}{W:Nat→List Nat}(same:∀p,p ∈ done↔p ∈ S)(hm:∀p ∈ S,p.1 < m∧p.2 < m)(r:Rws S done m W):Depth S (fun j=>if j < m then(W j).length else 1):=by
 have e:∀j,j < m→(if j < m then(W j).length else 1)=(W j).length:=fun j h=>if_pos h
 refine⟨fun j=> ?_,fun i j h=> ?_,fun j=> ?_⟩
 ·by_cases c:j < m
  ·show 1≤(if j < m then(W j).length else 1)
   rw [e j c]
   have:=r.last j c
   cases q:W j with
   | nil=>rw [q] at this; cases this
   | cons a l=>rw [yct]; omega
  ·show 1≤(if j < m then(W j).length else 1)
   rw [if_neg c]; exact yc6 _
 ·show(if i < m then(W i).length else 1) + 1≤(if j < m then(W j).length else 1)
  rw [e i (hm _ h).1,e j (hm _ h).2]
  exact r.ge i j ((same _).mpr h)
 ·by_cases c:j < m
  ·show(if j < m then(W j).length else 1)=1∨∃i,(i,j) ∈ S∧(if j < m then(W j).length else 1)=(if i < m then(W i).length else 1) + 1
   rw [e j c]
   rcases r.by_ j c with h | ⟨i,hi,h⟩
   ·exact .inl h
   ·have hi':=(same _).mp hi
    exact .inr ⟨i,hi',by rw [e i (hm _ hi').1]; exact h⟩
  ·exact .inl (if_neg c)
end Gra
namespace Gra
def nm(F:List (List Int))(x:Int):Nat:=F.findIdx fun p=>decide (x ∈ p)
theorem y89{F:List (List Int)}(nd:F.flatten.Nodup){j:Nat}{p:List Int}{x:Int}(h:F[j]? =some p)(hx:x ∈ p):nm F x=j:=by
 have hlt:nm F x < F.length:=List.findIdx_lt_length_of_exists ⟨p,yce h,decide_eq_true hx⟩
 have e:decide (x ∈ F[nm F x])=true:=List.findIdx_getElem (p:=fun p=>decide (x ∈ p)) (xs:=F) (w:=hlt)
 exact MX nd (yc4 hlt) h (of_decide_eq_true e) hx
theorem y1q{n:Nat}{ps:y8}{F:List (List Int)}(O:PartsOk n ps F){x:Int}(h0:0≤x)(h1:x < n):∃p,F[nm F x]? =some p∧x ∈ p:=by
 obtain⟨p,hp,hx⟩:=yg0.mp (O.all x h0 h1)
 obtain⟨j,hj⟩:=yd1.mp hp
 rw [y89 O.nd hj hx]
 exact⟨p,hj,hx⟩
theorem y8i{n:Nat}{ps:y8}{F:List (List Int)}(O:PartsOk n ps F){x:Int}(h0:0≤x)(h1:x < n):nm F x < F.length:=by
 obtain⟨p,hp,_⟩:=y1q O h0 h1
 exact(yc5.mp hp).1
def stp(F:List (List Int))(p:Int × Int):Nat × Nat:=(nm F p.1,nm F p.2)
def stB(F:List (List Int))(p:Int × Int):Bool:=decide (nm F p.1 ≠ nm F p.2)
def steps(F:List (List Int))(ps:y8):Prs:=(ps.filter (stB F)).map (stp F)
theorem M6{F:List (List Int)}{ps:y8}{k:Nat × Nat}:k ∈ steps F ps↔∃p ∈ ps,stp F p=k∧k.1 ≠ k.2:=by
 unfold steps
 rw [ycf]
 constructor
 ·rintro⟨p,hp,rfl⟩
  obtain⟨h1,h2⟩:=yd0.mp hp
  exact⟨p,h1,rfl,of_decide_eq_true h2⟩
 ·rintro⟨p,hp,rfl,hne⟩
  exact⟨p,yd0.mpr ⟨hp,decide_eq_true hne⟩,rfl⟩
section
variable{n:Nat}{ps:y8}{F:List (List Int)}
theorem W7(O:PartsOk n ps F)(hin:∀p ∈ ps,(0≤p.1∧p.1 < (n:Int))∧(0≤p.2∧p.2 < (n:Int))):∀i j,(i,j) ∈ steps F ps→i < j:=by
 intro i j h
 obtain⟨p,hp,e,hne⟩:=M6.mp h
 obtain⟨⟨a0,a1⟩,b0,b1⟩:=hin p hp
 obtain⟨q1,c1,c2⟩:=y1q O a0 a1
 obtain⟨q2,d1,d2⟩:=y1q O b0 b1
 have:=O.ord p.1 p.2 hp _ _ q1 q2 c1 d1 c2 d2
 have e1:nm F p.1=i:=congrArg Prod.fst e
 have e2:nm F p.2=j:=congrArg Prod.snd e
 rw [e1,e2] at this
 have hne':i ≠ j:=hne
 omega
theorem Qy(O:PartsOk n ps F)(hin:∀p ∈ ps,(0≤p.1∧p.1 < (n:Int))∧(0≤p.2∧p.2 < (n:Int))):∀k ∈ steps F ps,k.1 < F.length∧k.2 < F.length:=by
 intro k h
 obtain⟨p,hp,rfl,_⟩:=M6.mp h
 obtain⟨⟨a0,a1⟩,b0,b1⟩:=hin p hp
 exact⟨y8i O a0 a1,y8i O b0 b1⟩
theorem Zg(O:PartsOk n ps F):F.length≤n:=by
 have:∀G:List (List Int),(∀p ∈ G,p ≠ [])→G.length≤G.flatten.length:=fun G=>by
  induction G with
  | nil=>exact fun _=>yc6 _
  | cons p G ih=>
   intro h
   have h1:=ih fun q hq=>h q (yc9 _ hq)
   have h2:0 < p.length:=yin.mpr (h p yc8)
   rw [yec,ycr,yct]; omega
 have:=this F O.ne
 have:=y81 O
 omega
end
def JY{α:Type}(f:Int→α)(L:List α)(D:List (Int × Int)):List α:=D.foldl (fun L q=>L.set q.1.toNat (f q.2)) L
section
variable{α:Type}{f:Int→α}
theorem y0a(L:List α)(D:List (Int × Int))(q:Int × Int):JY f L (D ++ [q])=(JY f L D).set q.1.toNat (f q.2):=by
 unfold JY
 rw [List.foldl_append]; rfl
theorem MV:∀(D:List (Int × Int)) (L:List α),(JY f L D).length=L.length
 | [],L=>rfl
 | q :: D,L=>by
  show(JY f (L.set q.1.toNat (f q.2)) D).length=_
  rw [MV D,yfn]
theorem ZA{x:Int}(h0:0≤x):∀(D:List (Int × Int)) (L:List α),(∀q ∈ D,0≤q.1)→x ∉ D.map (·.1)→(JY f L D)[x.toNat]? =L[x.toNat]?
 | [],L,_,_=>rfl
 | q :: D,L,hp,hx=>by
  show(JY f (L.set q.1.toNat (f q.2)) D)[x.toNat]? =_
  rw [ZA h0 D _ (fun r hr=>hp r (yc9 _ hr)) (fun m=>hx (yc9 _ m))]
  have h1:=hp q yc8
  have ne:q.1 ≠ x:=fun e=>hx (by rw [←e]; exact yc8)
  rw [yet (by omega)]
theorem xo{x k:Int}(h0:0≤x):∀(D:List (Int × Int)) (L:List α),(D.map (·.1)).Nodup→(∀q ∈ D,0≤q.1)→(x,k) ∈ D→x.toNat < L.length→(JY f L D)[x.toNat]? =some (f k)
 | [],L,_,_,h,_=>by cases h
 | q :: D,L,nd,hp,h,hl=>by
  rw [ycv] at nd
  obtain⟨n1,n2⟩:=ydk.mp nd
  show(JY f (L.set q.1.toNat (f q.2)) D)[x.toNat]? =_
  rcases ycg.mp h with e | m
  ·subst e
   rw [ZA h0 D _ (fun r hr=>hp r (yc9 _ hr)) n1,yem hl]
  ·exact xo h0 D _ n2 (fun r hr=>hp r (yc9 _ hr)) m (by rw [yfn]; exact hl)
theorem WM{n:Nat}{ps:y8}{F:List (List Int)}(O:PartsOk n ps F){L:List α}(hl:L.length=n):JY f L (YH 0 F)=(YB n).map fun x=>f (nm F x:Nat):=by
 refine yf7 fun i=> ?_
 by_cases hi:i < n
 ·have hx:=O.all (i:Int) (by omega) (by omega)
  rw [←Zk F 0] at hx
  obtain⟨⟨x,k⟩,hm,e⟩:=ycf.mp hx
  have e':x=(i:Int):=e
  subst e'
  obtain⟨j,p,g1,g2,g3⟩:=Qf hm
  have:=xo (f:=f) (x:=(i:Int)) (k:=k) (by omega) (YH 0 F) L (by rw [Zk]; exact O.nd) (fun q hq=>by
   obtain⟨j,p,g1,g2,_⟩:=Qf (x:=q.1) (k:=q.2) hq
   exact(O.rg p (yce g1) q.1 g2).1) hm (by rw [hl]; omega)
  rw [ydm] at this
  rw [this,yca]
  unfold YB
  rw [yca,ydu hi]
  show some (f k)=some (f (nm F (i:Int):Nat))
  rw [y89 O.nd g1 g2,g3,yfi]
 ·rw [yd6 (by rw [MV,hl]; omega),yd6 (by unfold YB; rw [yc2,yc2,yd2]; omega)]
end
def qK(n:Nat)(F:List (List Int)):List Int:=(YB n).map fun x=>((nm F x:Nat):Int)
theorem y0y{n:Nat}{F:List (List Int)}{i:Nat}(h:i < n):(qK n F)[i]? =some ((nm F (i:Int):Nat):Int):=by
 unfold qK YB
 rw [yca,yca,ydu h]; rfl
theorem y1c{S done:Prs}{m:Nat}{W:Nat→List Nat}(up:∀i j,(i,j) ∈ done→i < j)(hm:∀p ∈ done,p.1 < m∧p.2 < m)(r:Rws S done m W):∀j,j < m→(W j).length≤j + 1:=by
 intro j
 induction j using ygs with
 | ind j ih=>
  intro hj
  rcases r.by_ j hj with h | ⟨i,hi,h⟩
  ·omega
  ·have h1:=up i j hi
   have:=ih i h1 (hm _ hi).1
   omega
end Gra
namespace L2
open PySem PySem.Spec PyProof.Rows
def L7(env:Env)(cs:List (Str × Addr))(p:Str × NameKind):List (Str × Addr):=
 if p.2 == .free then(p.1,(env.cells.lookup p.1).getD 0) :: cs else cs
def jw(scope:Scope)(env:Env):List (Str × Addr):=scope.names.foldl (L7 env) []
theorem LV{env:Env}:∀(l:List (Str × NameKind)) (cs:List (Str × Addr)),(∀p ∈ l,p.2= .free→∃c,env.cells.lookup p.1=some c)→
  (forIn l cs fun(p:Str × NameKind) (r:List (Str × Addr))=>(match p with
   | (name,kind)=>if (kind == NameKind.free)=true then do let c ←cellOf env name; pure (ForInStep.yield ((name,c) :: r)) else pure (ForInStep.yield r):Sem (ForInStep (List (Str × Addr)))))=pure (l.foldl (L7 env) cs)
 | [],cs,_=>rfl
 | (n,k) :: r,cs,h=>by
  rw [yf4,yfo]
  by_cases e:k= .free
  ·obtain⟨c,hc⟩:=h (n,k) yc8 e
   subst e
   have e2:L7 env cs (n, .free)=(n,c) :: cs:=by
    show(if (NameKind.free == NameKind.free)=true then(n,(env.cells.lookup n).getD 0) :: cs else cs)=_
    rw [if_pos (beq_self_eq_true NameKind.free)]
    have hc':env.cells.lookup n=some c:=hc
    rw [hc']; rfl
   rw [e2]
   have e3:cellOf env n=pure c:=by
    have hc':env.cells.lookup n=some c:=hc
    unfold cellOf; rw [hc']
   simp only [e3,beq_self_eq_true,if_true,pure_bind]
   exact LV r _ fun p hp=>h p (yc9 _ hp)
  ·have e1:(k == NameKind.free)=false:=by simpa using e
   have e2:L7 env cs (n,k)=cs:=by
    show(if (k == NameKind.free)=true then _ else cs)=_
    rw [e1]; rfl
   rw [e2]
   simp only [e1,ydo,if_false,pure_bind]
   exact LV r _ fun p hp=>h p (yc9 _ hp)
theorem MQ{scope:Scope}{env:Env}(h:∀p ∈ scope.names,p.2= .free→∃c,env.cells.lookup p.1=some c):closureFor scope env=pure (jw scope env):=by
 have e:=LV (env:=env) scope.names [] h
 unfold closureFor jw
 simp only [pure_bind,bind_pure]
 exact e
theorem Q3{env:Env}{y:Str}{c:Addr}:∀(l:List (Str × NameKind)) (cs:List (Str × Addr)),(∀p ∈ l,p.2= .free→∃c,env.cells.lookup p.1=some c)→
  (cs.lookup y=some c→env.cells.lookup y=some c)→(l.foldl (L7 env) cs).lookup y=some c→env.cells.lookup y=some c
 | [],cs,_,h,e=>h e
 | (n,k) :: r,cs,hl,h,e=>by
  rw [yfo] at e
  refine Q3 r _ (fun p hp=>hl p (yc9 _ hp)) (fun q=> ?_) e
  unfold L7 at q
  by_cases f:(k == NameKind.free)=true
  ·rw [if_pos f] at q
   have fk:k= .free:=by simpa using f
   obtain⟨c',hc'⟩:=hl (n,k) yc8 fk
   have hc'':env.cells.lookup n=some c':=hc'
   rw [ydl] at q
   cases hy:y == n with
   | true=>
    rw [hy] at q
    have yn:y=n:=by simpa using hy
    subst yn
    simp only [hc'',Option.getD_some] at q
    rw [hc'']; exact q
   | false=>
    rw [hy] at q
    exact h q
  ·rw [if_neg f] at q
   exact h q
theorem qm{env:Env}{y:Str}:∀(l:List (Str × NameKind)) (cs:List (Str × Addr)),((y,NameKind.free) ∈ l∨∃c,cs.lookup y=some c)→∃c,(l.foldl (L7 env) cs).lookup y=some c
 | [],cs,h=>by
  rcases h with h | h
  ·cases h
  ·exact h
 | (n,k) :: r,cs,h=>by
  rw [yfo]
  refine qm r _ ?_
  unfold L7
  rcases h with h | ⟨c,h⟩
  ·rcases ycg.mp h with e | e
   ·cases e
    refine .inr ⟨(env.cells.lookup y).getD 0, ?_⟩
    rw [if_pos (beq_self_eq_true NameKind.free),ydl]
    simp
   ·exact .inl e
  ·right
   by_cases f:(k == NameKind.free)=true
   ·rw [if_pos f,ydl]
    cases hy:y == n with
    | true=>exact⟨_,rfl⟩
    | false=>exact⟨c,h⟩
   ·rw [if_neg f]
    exact⟨c,h⟩
structure CompSc (outer scope:Scope) (N:List Str) (x:Str) (ys:List Str) (js:List Nat):Prop where
 cell:∀y ∈ scope.names,y.2 ≠ .cell
 kind:scope.kind= .function
 names:∀y ∈ scope.names,y.2= .local→scope.names.lookup y.1=some .local
 xl:scope.names.lookup x=some .local
 free:∀y ∈ scope.names,y.2= .free→(outer.names.lookup y.1=some .cell∨outer.names.lookup y.1=some .free)
 caps:∀p ∈ ys.zip js,N[p.2]? =some p.1∧scope.names.lookup p.1=some .free
 len:ys.length=js.length
 nd:(x :: ys).Nodup
theorem VE{env:Env}:∀{names:List (Str × NameKind)} {x:Str},names.lookup x=some .free→
  (names.map fun(n,k)=>if (k == NameKind.free && env.scope.kind == .function && env.kindOf n == some .cell) then(n,NameKind.cell) else(n,k)).lookup x=some .cell∨
  (names.map fun(n,k)=>if (k == NameKind.free && env.scope.kind == .function && env.kindOf n == some .cell) then(n,NameKind.cell) else(n,k)).lookup x=some .free
 | [],_,h=>by simp at h
 | (n,k) :: r,x,h=>by
  have ih:=@VE env r x
  rw [ycv]
  cases hx:x == n with
  | true=>
   simp only [ydl,hx] at h
   cases h
   by_cases hc:(NameKind.free == NameKind.free && env.scope.kind == .function && env.kindOf n == some .cell)=true
   ·left
    show yh3 x ((if (NameKind.free == NameKind.free && env.scope.kind == .function && env.kindOf n == some .cell)=true then(n,NameKind.cell) else(n,NameKind.free)) :: _)=_
    rw [if_pos hc]; simp only [ydl,hx]
   ·right
    show yh3 x ((if (NameKind.free == NameKind.free && env.scope.kind == .function && env.kindOf n == some .cell)=true then(n,NameKind.cell) else(n,NameKind.free)) :: _)=_
    rw [if_neg hc]; simp only [ydl,hx]
  | false=>
   simp only [ydl,hx] at h
   have e:∀t,yh3 x ((if (k == NameKind.free && env.scope.kind == .function && env.kindOf n == some .cell)=true then(n,NameKind.cell) else(n,k)) :: t)=yh3 x t:=fun t=>by
    by_cases hc:(k == NameKind.free && env.scope.kind == .function && env.kindOf n == some .cell)=true
    ·rw [if_pos hc]; simp only [ydl,hx]
    ·rw [if_neg hc]; simp only [ydl,hx]
   rcases ih h with q | q
   ·exact .inl ((e _).trans q)
   ·exact .inr ((e _).trans q)
theorem zJ{scope:Scope}{env:Env}{y:Str}(hn:∀z ∈ scope.names,z.2 ≠ .cell)(h:(relabel scope env).names.lookup y=some .cell∨(relabel scope env).names.lookup y=some .free):(y,NameKind.free) ∈ scope.names:=by
 have h':(y,NameKind.cell) ∈ (relabel scope env).names∨(y,NameKind.free) ∈ (relabel scope env).names:=h.imp PySem.mem_of_lookup PySem.mem_of_lookup
 rcases h' with h' | h'
 ·obtain⟨⟨n,k⟩,hp,e⟩:=ycf.mp h'
  have e':(if (k == NameKind.free && env.scope.kind == .function && env.kindOf n == some .cell)=true then(n,NameKind.cell) else(n,k))=(y,NameKind.cell):=e
  by_cases hc:(k == NameKind.free && env.scope.kind == .function && env.kindOf n == some .cell)=true
  ·rw [if_pos hc] at e'
   have hk:k= .free:=by
    simp only [yeo,beq_iff_eq] at hc
    exact hc.1.1
   cases e'
   rw [←hk]; exact hp
  ·rw [if_neg hc] at e'
   cases e'
   exact absurd rfl (hn _ hp)
 ·obtain⟨⟨n,k⟩,hp,e⟩:=ycf.mp h'
  have e':(if (k == NameKind.free && env.scope.kind == .function && env.kindOf n == some .cell)=true then(n,NameKind.cell) else(n,k))=(y,NameKind.free):=e
  by_cases hc:(k == NameKind.free && env.scope.kind == .function && env.kindOf n == some .cell)=true
  ·rw [if_pos hc] at e'
   cases e'
  ·rw [if_neg hc] at e'
   cases e'
   exact hp
def YA(X:Cx)(scope:Scope)(C:Addr)(N':List Str)(s₂:Shared)(H₂:Hp)(fp:List Addr):Cx:=
 {X with N:=N',s₀:=s₂,H₀:=H₂,env:=compEnvC scope (jw scope X.env) C X.env,outer:=X.stack,stack:=X.stack,ex:=fp,fn:=fun _=>false,calm:=true,pn:= [],xe:=fun _ _=>False}
def yJ(js:List Nat)(σ:St)(o:Option V):St:=o :: js.map fun j=>(σ[j]?).join
def PCs(X:Cx)(ifs:List Expr)(t:TT):Prop:=
 ∀(pins:List (Addr × Obj)) (s:Shared) (σ:St) (H:Hp) (Q:Bool→Hp→Prop),Inv X pins σ H s→t σ H Q→
  wpAny (model X.prog X.w) X.A (forIn ifs true fun c r=>if r=true then do let ok ←isTrue c X.env (eval c X.env); pure (ForInStep.yield ok) else pure (ForInStep.yield r)) (TP X pins σ Q) X.xe s
def MS:TT:=fun _ H Q=>Q true H
theorem VD{σ:St}{H:Hp}{Q:Bool→Hp→Prop}(h:Q true H):MS σ H Q:=h
theorem Jp{X:Cx}:PCs X [] MS:=fun _ _ _ H _ I h=>wpAny_tests_nil ⟨H,I,h⟩
theorem Vb{X:Cx}{c:Expr}{t:TT}(h:PT X c t):PCs X [c] t:=fun pins s σ H Q I hw=>wpAny_tests_one (h pins s σ H Q I hw)
theorem HOk.track{P:Program}{w:World}{H:Hp}{h:Heap}{a:Addr}{o:HO}(x:HOk P w H h)(hn:H a=none)(new:yR P w (upd H a o) h a o):HOk P w (upd H a o) h:=fun b u e=>by
 by_cases hb:b=a
 ·subst hb; rw [y6] at e; cases e; exact new
 ·rw [yi hb] at e
  exact(x b u e).stay (fun c v _ q=>q) (fun c q=>by rw [yi (ym q hn)]; exact q) fun c xs q=>by rw [yi (ym q hn)]; exact q
theorem Un.track{fs ex:List Addr}{H H1:Hp}{h h1:Heap}{a:Addr}{o:HO}(u:Un fs ex H H1 h h1)(hn:H1 a=none)(hp:h.objs.size≤a):Un fs ex H (upd H1 a o) h h1 where
 keep:=u.keep
 slot:=u.slot
 free:=fun b ob q n hx=>by rw [yi (ycj (ycm (Heap.lt_size q) hp))]; exact u.free b ob q n hx
 there:=u.there
 tups:=fun b xs q=>by
  have q':=u.tups b xs q
  rw [yi (ym q' hn)]; exact q'
 frzs:=fun b ob xs q=>by
  have q':=u.frzs b ob xs q
  rw [yi (ym q' hn)]; exact q'
 tbls:=fun b ps q=>by
  obtain⟨m,q'⟩:=u.tbls b ps q
  exact⟨m,by rw [yi (ym q' hn)]; exact q'⟩
section
variable{X:Cx}{pins:List (Addr × Obj)}{σ:St}{H:Hp}{s:Shared}
theorem qN{scope:Scope}{C:Addr}{x:Str}{ys:List Str}{js:List Nat}{fp:List Addr}(I:Inv X pins σ H s)(S:CompSc X.env.scope scope X.N x ys js)(hc:X.calm=true)(hC:s.heap.objs.size≤C)
  (hf:∀b ∈ fp,LF X pins H b) (hl:∀b ∈ fp,b < s.heap.objs.size):(YA X scope C (x :: ys) s H fp).Ok:=by
 have hfree:∀p ∈ scope.names,p.2= .free→∃c,X.env.cells.lookup p.1=some c:=fun p hp e=>I.ok.has p.1 (S.free p hp e)
 have hcl:∀y c,(jw scope X.env).lookup y=some c→X.env.cells.lookup y=some c:=fun y c e=>Q3 scope.names [] hfree (fun z=>by simp at z) e
 refine⟨I.ok.mod,S.kind,I.ok.glob,I.ok.blt,hC,fun y z c h1 h2=>I.ok.inj y z c (hcl y c h1) (hcl z c h2),fun y hy=> ?_,fun y c h _=> ?_,fun _=>I.ok.hd hc,I.ok.frames, .inl rfl,fun b hb=> ?_,I.bs,ydw I.ok.bsz I.sz,fun b o e hb=> ?_,fun b hb hfs=> ?_,I.stack,I.stkFree⟩
 ·exact qm scope.names [] (.inl (zJ S.cell hy))
 ·exact absurd (show false=true from h) (by decide)
 ·refine⟨ycj (ycm (hl b hb) hC),fun y c e=> ?_⟩
  exact(hf b hb).2.2.2.2.1 y c (hcl y c e)
 ·rcases(hf b hb).2.2.2.1 with z | z
  ·exact I.ok.noex b o e z
  ·exact absurd (ycm (Heap.lt_size (I.ok.bs b o e).1) z) (yd3 _)
 ·rcases ycg.mp (I.stkSub b hfs) with e | e
  ·exact(hf b hb).2.1 e
  ·exact(hf b hb).2.2.1 e
theorem y78{js:List Nat}{σ:St}{i:Nat}{v:V}(e:(js.map fun j=>(σ[j]?).join)[i]? =some (some v)):∃j,js[i]? =some j∧σ[j]? =some (some v):=by
 rw [yca] at e
 cases h:js[i]? with
 | none=>rw [h] at e; cases e
 | some j=>
  rw [h] at e
  have e':(σ[j]?).join=some v:=Option.some.inj e
  refine⟨j,rfl, ?_⟩
  cases h2:σ[j]? with
  | none=>rw [h2] at e'; cases e'
  | some o=>rw [h2] at e'; cases o with
   | none=>cases e'
   | some u=>rw [show u=v from Option.some.inj e']
theorem y26{scope:Scope}{C:Addr}{x:Str}{ys:List Str}{js:List Nat}{fp:List Addr}{h₁:Heap}{tk:Nat}{m:Str→Option Value}(I:Inv X pins σ H s)(S:CompSc X.env.scope scope X.N x ys js)(hc:X.calm=true)(hC:s.heap.objs.size≤C)
  (hf:∀b ∈ fp,LF X pins H b) (hl:∀b ∈ fp,b < s.heap.objs.size) (old:∀b o,s.heap.get? b=some o→h₁.get? b=some o) (hns:h₁.Ns C m) :
  Inv (YA X scope C (x :: ys) s H fp) [] (yJ js σ none) H {s with heap:=h₁,toks:=tk}:=by
 have hfree:∀p ∈ scope.names,p.2= .free→∃c,X.env.cells.lookup p.1=some c:=fun p hp e=>I.ok.has p.1 (S.free p hp e)
 have hcl:∀y c,(jw scope X.env).lookup y=some c→X.env.cells.lookup y=some c:=fun y c e=>Q3 scope.names [] hfree (fun z=>by simp at z) e
 refine⟨qN I S hc hC hf hl,rfl,I.bare,Un.kept old,⟨m,hns,fun i y v h1 h2 h3=> ?_⟩,fun y c e=> ?_,I.hok.fresh hC,fun y c e=>I.freeC y c (hcl y c e),fun p hp=>absurd (show p ∈ ([]:List (Addr × Obj)) from hp) (by simp),I.hok.kept old, ?_⟩
 ·cases i with
  | zero=>exact absurd (show some (none:Option V)=some (some v) from h2) (by simp)
  | succ i=>
   have h2':(js.map fun j=>(σ[j]?).join)[i]? =some (some v):=h2
   have h1':ys[i]? =some y:=h1
   obtain⟨j,hj,hv⟩:=y78 h2'
   have hz:(y,j) ∈ ys.zip js:=by
    refine yd1.mpr ⟨i, ?_⟩
    rw [List.getElem?_zip_eq_some]
    exact⟨h1',hj⟩
   obtain⟨hN,hfr⟩:=S.caps (y,j) hz
   have hk:X.env.kindOf y=some .cell∨X.env.kindOf y=some .free:=S.free (y, .free) (PySem.mem_of_lookup hfr) rfl
   obtain⟨m0,_,hl0⟩:=I.loc
   obtain⟨u,r,l⟩:=hl0 j y v hN hv (.inr hk)
   refine⟨u,r, .inr ⟨VE hfr, ?_⟩⟩
   rcases l with⟨k,_⟩ | ⟨_,c,ec,z⟩
   ·rcases hk with z | z
    ·rw [z] at k; cases k
    ·rw [z] at k; cases k
   ·obtain⟨c',hc'⟩:=qm (env:=X.env) (y:=y) scope.names [] (.inl (PySem.mem_of_lookup hfr))
    have ec':=hcl y c' hc'
    rw [ec] at ec'; cases ec'
    obtain⟨o,ho,hd⟩:=z
    exact⟨c,hc',o,old c o ho,hd⟩
 ·obtain⟨v,o,ho,hd⟩:=I.cell y c (hcl y c e)
  exact⟨v,o,old c o ho,hd⟩
 ·show(js.map _).length + 1=ys.length + 1
  rw [yc2,S.len]
theorem y6s{scope:Scope}{C D:Addr}{N':List Str}{fp:List Addr}{pins':List (Addr × Obj)}{σ':St}{H':Hp}{s':Shared}{xs:List V}{its:List Value}{n:Nat}(I:Inv X pins σ H s)(hf:∀b ∈ fp,LF X pins H b)
  (J:Inv (YA X scope C N' s H fp) pins' σ' H' s') (hD:s.heap.objs.size≤D) (hn:H' D=none) (e:s'.heap.get? D=some {cls:= .type "list",data:= .seq its.toArray n}) (r:yz xs its) (z:xs.length≤sizeLine) :
  Inv X pins σ (upd H' D (.lst xs)) s':=by
 refine I.call' (ch:=fp) J.os (Un.track J.base hn hD) (HOk.track J.hok hn ⟨z,its,n,r,e⟩) J.bare fun b hb=> ?_
 obtain⟨_,f1,_,f3,f4,f5⟩:=hf b hb
 exact⟨f3,f1,f4,f5⟩
end
section
variable{prog:Program}{w:World}{A:Around}{R:Result→Shared→Prop}{s:Shared}
theorem Za{elt target iter:Expr}{ifs:List Expr}{scope:Scope}{pos:Pos}{it acc:Value}{env:Env}(I:Nat→Shared→Prop)
  (turn:∀n s,I n s→wpAny (model prog w) A (pyNext it) (fun r s₁=>match r with
   | none=>R (.ok .next) s₁
   | some v=>wpAny (model prog w) A (letOwnedTupleGo target it v) (fun _ s₁=>wpAny (model prog w) A (assign target env v) (fun _ s₂=>
     wpAny (model prog w) A (forIn ifs true fun c r=>if r=true then do let ok ←isTrue c env (eval c env); pure (ForInStep.yield ok) else pure (ForInStep.yield r)) (fun ok s₃=>
      if ok=true then wpAny (model prog w) A (eval elt env) (fun x s₄=>
       wpAny (model prog w) A (call (.builtin "list.append") [acc,x]) (fun _ s₅=>∃m,m < n∧I m s₅) (fun _ _=>False) s₄) (fun _ _=>False) s₃
      else ∃m,m < n∧I m s₃) (fun _ _=>False) s₂) (fun _ _=>False) s₁) (fun _ _=>False) s₁) (fun _ _=>False) s)
  (n:Nat) (h:I n s) :
  codeAny (model prog w) A (.compLoop (.ListComp elt [⟨target,iter,ifs,0⟩] scope pos) 0 it acc env) R s:=by
 refine codeAny_loop rfl I (fun n s hI=> ?_) n h
 show wpAny _ A ((compTurn (.ListComp elt [⟨target,iter,ifs,0⟩] scope pos) 0 it acc env).onRaise (fun x=>do noteFrame x env; theTreesLotGoes x)) _ _ s
 refine wpAny_noted ?_
 rw [compTurn_list]
 have F:∀{P:Value→Shared→Prop} (a:Value) (s:Shared),False→P a s:=fun _ _ z=>z.elim
 refine wpAny_bind (wpAny_standAt (wpAny_bind (wpAny_mono (turn n s hI) (fun r s₁ h₁=> ?_) F)))
 cases r with
 | none=>exact wpAny_pure h₁
 | some v=>
  refine wpAny_bind (wpAny_mono h₁ (fun _ s₁' h₁'=> ?_) F)
  refine wpAny_bind (wpAny_mono h₁' (fun _ s₂ h₂=>wpAny_bind (wpAny_mono h₂ (fun ok s₃ h₃=> ?_) F)) F)
  cases ok with
  | false=>exact wpAny_pure ⟨rfl,h₃⟩
  | true=>
   simp only [if_true] at h₃ ⊢
   exact wpAny_bind (wpAny_bind (wpAny_mono h₃ (fun x s₄ h₄=>wpAny_bind (wpAny_mono h₄ (fun _ s₅ h₅=>wpAny_pure (wpAny_pure ⟨rfl,h₅⟩)) F)) F))
end
def LCw(js:List Nat)(σ:St)(tc:TT)(te:TE)(Q:VK)(J:It)(H1:Hp):Prop:=∃W:Nat→Nat→List V→Hp→Prop,(∃m,W 0 m [] H1)∧∀i m ys H,W i m ys H→
 (J.stop i H∧ys.length≤sizeLine∧∀p,H p=none→Q (.ref p) (upd H p (.lst ys)))∨
 (J.go i H∧ys.length < sizeLine∧∃N:List V→Hp→Prop,(∀ys' H',N ys' H'→∃m',m' < m∧W (i + 1) m' ys' H')∧
  ∀x H',J.yld i H x H'→tc (yJ js σ (some x)) H' fun b H2=>if b=true then te (yJ js σ (some x)) H2 fun y H3=>N (ys ++ [y]) H3 else N ys H2)
def tLC(js:List Nat)(wi:TI)(tc:TT)(te:TE):TE:=fun σ H Q=>wi σ H (LCw js σ tc te Q)
section
variable{X:Cx}{elt iter:Expr}{x:Str}{px pos:Pos}{ifs:List Expr}{scope:Scope}{ys:List Str}{js:List Nat}{wi:TI}{tc:TT}{te:TE}
theorem QO{pins:List (Addr × Obj)}{σ:St}{H:Hp}{s:Shared}{it:Addr}{fp:List Addr}{tn:Nat→Heap→Prop}{J:It}{E:Value→Shared→Prop}{Q:VK}{RR:Value→Addr→Result→Shared→Prop}
  (S:CompSc X.env.scope scope X.N x ys js) (hc:X.calm=true) (hcs:∀C s H fp,PCs (YA X scope C (x :: ys) s H fp) ifs tc) (he:∀C s H fp,PE (YA X scope C (x :: ys) s H fp) elt te)
  (I:Inv X pins σ H s) (T:Turn X.prog X.w X.K (.Name x px) J fp it tn) (st:tn 0 s.heap) (hf:∀b ∈ fp,LF X pins H b)
  (hW:LCw js σ tc te Q J H)
  (hRR:∀(D C:Addr) (H':Hp) (m:Str→Option Value) (s':Shared),s.heap.objs.size≤C→H' C=none→Inv X pins σ H' s'→s'.heap.Ns C m→Q (.ref D) H'→RR (.ref D) C (.ok .next) s') :
  wpAny (model X.prog X.w) X.A (newList []) (fun acc s₃=>wpAny (model X.prog X.w) X.A (newFunctionEnv scope X.env.globals (jw scope X.env) [] X.env.qual none .none (some X.env)) (fun cenv s₄=>
   codeAny (model X.prog X.w) X.A (.compStart (.ListComp elt [⟨.Name x px,iter,ifs,0⟩] scope pos) 0 (.ref it) acc {cenv with scope:=relabel scope X.env}) (RR acc cenv.locals) s₄) E s₃) E s:=by
 obtain⟨W,⟨m0,w0⟩,turn⟩:=hW
 have hl:∀b ∈ fp,b < s.heap.objs.size:=fun b hb=>let ⟨o,e,_⟩:=T.obj 0 _ st b hb; Heap.lt_size e
 refine wpAny_newObj_type (wpAny_newFunctionEnv S.cell (by intro y hy; simp at hy) (fun h₁ hns₁ hsb₁=> ?_) S.kind)
 dsimp only at hns₁ hsb₁ ⊢
 generalize hH2:s.heap.push {cls:= .type "list",dict:=none,data:= .seq ([]:List Value).toArray}=H2 at hns₁ hsb₁ ⊢
 have hC:H2.objs.size=s.heap.objs.size + 1:=by rw [←hH2,Heap.size_push]
 have hDC:s.heap.objs.size ≠ H2.objs.size:=by rw [hC]; exact ycj (yeh _)
 have hCle:s.heap.objs.size≤H2.objs.size:=by rw [hC]; exact yez _
 have old:∀b o,s.heap.get? b=some o→h₁.get? b=some o:=fun b o e=>hsb₁.extBut b o (by rw [hC]; exact ycj (ydi (Heap.lt_size e))) (Heap.get?_push_of_some _ (hH2 ▸ Heap.get?_push_of_some _ e))
 have hacc:h₁.get? s.heap.objs.size=some {cls:= .type "list",data:= .seq ([]:List Value).toArray 0}:=hsb₁.extBut _ _ hDC (Heap.get?_push_of_some _ (hH2 ▸ Heap.get?_push_size _ rfl))
 have hDn:H s.heap.objs.size=none:=I.hok.fresh (yc6 _)
 have J0:Inv (YA X scope H2.objs.size (x :: ys) s H fp) [] (yJ js σ none) H {s with heap:=h₁,toks:=s.toks + ([]:List (Str × Value)).length}:=y26 I S hc hCle hf hl old hns₁
 have hDfs:s.heap.objs.size ∉ (YA X scope H2.objs.size (x :: ys) s H fp).fs:=fun hb=>by
  rcases ycg.mp (I.stkSub _ hb) with e | e
  ·exact absurd I.lt (by rw [←e]; exact yd3 _)
  ·exact I.nofs (yc6 _) e
 have st1:tn 0 h₁:=T.keep _ _ _ st fun b _ o e=>old b o e
 let lob:List Value→Nat→Obj:=fun its n=>{cls:= .type "list",data:= .seq its.toArray n}
 have pinD:∀{σ':St} {H':Hp} {s':Shared} {its:List Value} {n:Nat},Inv (YA X scope H2.objs.size (x :: ys) s H fp) [] σ' H' s'→s'.heap.get? s.heap.objs.size=some (lob its n)→H' s.heap.objs.size=none→
   Inv (YA X scope H2.objs.size (x :: ys) s H fp) [(s.heap.objs.size,lob its n)] σ' H' s':=fun {σ' H' s' its n} K e hn=>K.pins_of fun p hp=>by
  have ep:p=(s.heap.objs.size,lob its n):=by simpa using hp
  subst ep
  exact⟨e,hn,hDC,hDfs,fun v z=>by cases z⟩
 have fpok:∀{H':Hp} {pn:List (Addr × Obj)},(∀b ∈ fp,H' b=none)→(∀p ∈ pn,p.1=s.heap.objs.size)→∀b ∈ fp,LF (YA X scope H2.objs.size (x :: ys) s H fp) pn H' b:=fun {H' pn} hn hp b hb=>by
  refine⟨hn b hb,ycj (ycm (hl b hb) hCle),(qN I S hc hCle hf hl).exfs b hb, .inl hb,(qN I S hc hCle hf hl).exf b hb |>.2,fun p hpp z=> ?_⟩
  have:=hp p hpp
  rw [this] at z
  exact absurd (hl b hb) (by rw [←z]; exact yd3 _)
 have loop:∀s₃:Shared,s₃={s with heap:=h₁,toks:=s.toks + ([]:List (Str × Value)).length}→
   codeAny (model X.prog X.w) X.A (.compLoop (.ListComp elt [⟨.Name x px,iter,ifs,0⟩] scope pos) 0 (.ref it) (.ref s.heap.objs.size) (compEnvC scope (jw scope X.env) H2.objs.size X.env)) (RR (.ref s.heap.objs.size) H2.objs.size) s₃:=by
  rintro s₃ rfl
  refine Za (fun n s'=>∃i o H' zs its k,Inv (YA X scope H2.objs.size (x :: ys) s H fp) [(s.heap.objs.size,lob its k)] (yJ js σ o) H' s'∧tn i s'.heap∧(∀b ∈ fp,H' b=none)∧yz zs its∧W i n zs H') ?_ m0
   ⟨0,none,H, [], [],0,pinD J0 hacc hDn,st1,fun b hb=>(hf b hb).1, .nil,w0⟩
  rintro n s3 ⟨i,o,H3,zs,its,k,I3,st3,fr3,rz,w3⟩
  have onlyD:∀p ∈ [(s.heap.objs.size,lob its k)],p.1=s.heap.objs.size:=fun p hp=>by
   have ep:p=(s.heap.objs.size,lob its k):=by simpa using hp
   rw [ep]
  rcases turn i n zs H3 w3 with⟨stop,hz,qn⟩ | ⟨go,hz,N,hN,step⟩
  ·refine thn (T.done (YA X scope H2.objs.size (x :: ys) s H fp) rfl rfl rfl rfl i _ s3 _ H3 (fun _ _=>False) I3 (fpok fr3 onlyD) st3 stop) fun r s4 ⟨hr,I4⟩=> ?_
   subst hr
   obtain⟨e4,n4,_⟩:=I4.pin (s.heap.objs.size,lob its k) (ycx _ (by simp))
   obtain⟨m4,hm4,_⟩:=I4.loc
   exact hRR _ _ _ _ s4 hCle (by rw [yi (Ne.symm hDC)]; exact I4.free) (y6s I hf I4 (yc6 _) n4 e4 rz hz) hm4 (qn _ n4)
  ·refine thn (T.item (YA X scope H2.objs.size (x :: ys) s H fp) rfl rfl rfl rfl i _ s3 _ H3 (fun _ _=>False) I3 (fpok fr3 onlyD) st3 go) fun r s4 ⟨u,hr,h4⟩=> ?_
   subst hr
   refine thn h4 fun _ s5 ⟨v,H5,I5,r5,y5,st5,fr5⟩=> ?_
   have I5':=I5.pinned (fpok fr5 onlyD) (T.obj _ _ st5)
   have hx:Loc (YA X scope H2.objs.size (x :: ys) s H fp).env.scope x:= .inl (lookup_relabel_local S.xl)
   refine thn (YR (i:=0) (X:=YA X scope H2.objs.size (x :: ys) s H fp) S.nd rfl hx (.inr (lookup_relabel_local S.xl)) _ s5 _ H5 v u (fun σ6 H6=>σ6=yJ js σ (some v)∧H6=H5) I5' r5 ⟨rfl,rfl⟩) fun _ s6 ⟨σ6,H6,I6,e6,eH6⟩=> ?_
   subst e6 eH6
   refine thn (hcs _ _ _ _ _ s6 _ _ _ I6 (step v _ y5)) fun ok s7 ⟨H7,I7,q7⟩=> ?_
   have keepD:∀{σ':St} {H':Hp} {s':Shared},Inv (YA X scope H2.objs.size (x :: ys) s H fp) ([(s.heap.objs.size,lob its k)] ++ Zu fp s5.heap) σ' H' s'→
     (s'.heap.get? s.heap.objs.size=some (lob its k)∧H' s.heap.objs.size=none)∧tn (i + 1) s'.heap∧∀b ∈ fp,H' b=none:=fun {σ' H' s'} K=>by
    obtain⟨e1,n1,_⟩:=K.pin (s.heap.objs.size,lob its k) (ycx _ (by simp))
    refine⟨⟨e1,n1⟩,T.keep _ _ _ st5 fun b hb o e=>(K.pin (b,o) (ycx _ (ycx _ (Lx hb e)))).1,fun b hb=> ?_⟩
    obtain⟨o,e,d⟩:=T.obj _ _ st5 b hb
    exact(K.pin (b,o) (ycx _ (ycx _ (Lx hb e)))).2.1
   cases ok with
   | false=>
    obtain⟨m',hm,w7⟩:=hN _ _ (show N zs H7 from q7)
    obtain⟨⟨e1,n1⟩,tn7,fr7⟩:=keepD I7
    exact⟨m',hm,i + 1,some v,H7,zs,its,k,I7.unpinned,tn7,fr7,rz,w7⟩
   | true=>
    simp only [if_true] at q7 ⊢
    refine thn (he _ _ _ _ _ s7 _ H7 _ I7 q7) fun y s8 ⟨yv,H8,I8,r8,q8⟩=> ?_
    obtain⟨⟨e8,n8⟩,tn8,fr8⟩:=keepD I8
    refine wpAny_list_append_plain (items:=its.toArray) ⟨k,e8⟩ (fun h9 hpl hsb=> ?_) (by have:=rz.length; simp only [yc7]; omega)
    obtain⟨k9,e9⟩:=hpl
    have e9':h9.get? s.heap.objs.size=some (lob (its ++ [y]) k9):=by rw [e9]; simp [lob]
    have I8':Inv (YA X scope H2.objs.size (x :: ys) s H fp) [] (yJ js σ (some v)) H8 s8:=I8.pins_of fun p hp=>absurd hp (by simp)
    have I9:Inv (YA X scope H2.objs.size (x :: ys) s H fp) [] (yJ js σ (some v)) H8 {s8 with heap:=h9}:=
     I8'.turned (t':=s8.toks) (it:=s.heap.objs.size) (fun b o hb e=>hsb.extBut b o hb e) n8 hDC (.inr (yc6 _)) (fun y c e z=>by
      have:=I8'.freeC y c e
      obtain⟨v',ob,ho,hd⟩:=I8'.cell y c e
      rw [z,e8] at ho
      cases ho
      cases hd) (fun p hp=>absurd (show p ∈ ([]:List (Addr × Obj)) from hp) (by simp))
    obtain⟨m',hm,w9⟩:=hN _ _ q8
    refine⟨m',hm,i + 1,some v,H8,zs ++ [yv],its ++ [y],k9,pinD I9 e9' n8, ?_,fr8,rz.append (.cons r8 .nil),w9⟩
    exact T.keep _ _ _ tn8 fun b hb o e=>hsb.extBut b o (ycj (hl b hb)) e
 exact codeAny_compStart_list (loop _ rfl) (T.self _ 0 _ _ _ st1 (loop _ rfl))
theorem jd(S:CompSc X.env.scope scope X.N x ys js)(hc:X.calm=true)(hi:PI X (.Name x px) iter wi)(hcs:∀C s H fp,PCs (YA X scope C (x :: ys) s H fp) ifs tc)(he:∀C s H fp,PE (YA X scope C (x :: ys) s H fp) elt te)
  (hs:∀x,foldedSetIterable iter X.env x=pure x:=by intro _; rfl):PE X (.ListComp elt [⟨.Name x px,iter,ifs,0⟩] scope pos) (tLC js wi tc te):=by
 intro pins s σ H Q I h
 have hclos:closureFor scope X.env=pure (jw scope X.env):=MQ fun p hp e=>I.ok.has p.1 (S.free p hp e)
 rw [eval_ListComp]
 refine wpAny_comprehension_free (use:=none) rfl hs hclos S.kind S.names (thn (hi pins s σ H _ I h) fun xv s₁ h₁=>thn h₁ fun itv s₂ h₂=> ?_)
 obtain⟨it,fp,tn,J,H2,e,I2,T,st2,f2,hW⟩:=h₂
 subst e
 refine QO (RR:=fun acc C=>compPost (model X.prog X.w) X.A X.xe none (EP X pins σ Q) acc C) S hc hcs he I2 T st2 f2 hW ?_
 intro D C H' m s' hC hCn I' hm q
 refine⟨m,hm,fun h' hsb=>⟨.ref D,H', ?_,rfl,q⟩⟩
 exact I'.turned (t':=s'.toks) (it:=C) (fun b o hb e=>hsb.extBut b o hb e) hCn (ydf (ycm I2.lt hC)) (.inr (ydw I2.sz hC)) (fun y c e z=>by
  obtain⟨v',q'⟩:=I2.cell y c e
  exact absurd (ycm q'.lt (by rw [z]; exact hC)) (yd3 _)) (fun p hp z=>absurd (ycm (Heap.lt_size (I2.pin p hp).1) (by rw [z]; exact hC)) (yd3 _))
theorem VF{i:Nat}{y:Str}{py spos:Pos}(hN:X.N.Nodup)(hiy:X.N[i]? =some y)(hy:Loc X.env.scope y)(S:CompSc X.env.scope scope X.N x ys js)(hc:X.calm=true)(hi:PI X (.Name x px) iter wi)(hcs:∀C s H fp,PCs (YA X scope C (x :: ys) s H fp) ifs tc)
  (he:∀C s H fp,PE (YA X scope C (x :: ys) s H fp) elt te) (hsw:swapsWith (.ListComp elt [⟨.Name x px,iter,ifs,0⟩] scope pos) (some (.Name y py)) spos.line X.env=pure true:=by rfl)
  (hf:X.fn y=true∨X.env.scope.names.lookup y=some .local:=by first | exact .inl rfl | exact .inr rfl | assumption) (hs:∀x,foldedSetIterable iter X.env x=pure x:=by intro _; rfl) :
  PS X (.Assign [.Name y py] (.ListComp elt [⟨.Name x px,iter,ifs,0⟩] scope pos) spos) (tAsg (tLC js wi tc te) (QP i)):=by
 intro pins s σ H D I h
 have hclos:closureFor scope X.env=pure (jw scope X.env):=MQ fun p hp e=>I.ok.has p.1 (S.free p hp e)
 rw [exec_Assign_Name_used _ _ _ _ hsw]
 refine wpAny_bind (wpAny_standAt (wpAny_bind ?_))
 show wpAny _ X.A (do let _ ←comprehension (.ListComp elt [⟨.Name x px,iter,ifs,0⟩] scope pos) scope X.env _ (newList []) false (eval iter X.env) (some (assign (.Name y py) X.env))) _ _ s
 refine wpAny_bind (wpAny_mono (wpAny_comprehension_free (use:=some (assign (.Name y py) X.env)) (Q:=fun _ s'=>SP X pins D .next s') rfl hs hclos S.kind S.names
  (thn (hi pins s σ H _ I h) fun xv s₁ h₁=>thn h₁ fun itv s₂ h₂=> ?_)) (fun _ s' hq=>wpAny_pure (wpAny_pure hq)) fun _ _ e=>e)
 obtain⟨it,fp,tn,J,H2,e,I2,T,st2,f2,hW⟩:=h₂
 subst e
 refine QO (Q:=fun v H'=>QP i v σ H' D.nx) (RR:=fun acc C=>compPost (model X.prog X.w) X.A X.xe (some (assign (.Name y py) X.env)) (fun _ s'=>SP X pins D .next s') acc C) S hc hcs he I2 T st2 f2 hW ?_
 intro Da C H' m s' hC hCn I' hm q
 have neC:∀z c,X.env.cells.lookup z=some c→c ≠ C:=fun z c e w=>by
  obtain⟨v',q'⟩:=I2.cell z c e
  exact absurd (ycm q'.lt (by rw [w]; exact hC)) (yd3 _)
 have neL:C ≠ X.env.locals:=ydf (ycm I2.lt hC)
 show wpAny _ X.A (assign (.Name y py) X.env (.ref Da)) _ _ _
 refine wpAny_assign_Name (x8 (v:= .ref Da) I' hN hiy hy rfl (fun s'' I'' hch=> ?_) hf)
 obtain⟨a,hsa,ha⟩:=hch
 have aC:C ≠ a:=by
  rcases ha with e | e
  ·rw [e]; exact neL
  ·exact fun w=>neC _ _ e w.symm
 refine⟨m,hm.sameBut hsa aC,fun h' hsb=> ?_⟩
 refine⟨_,H',I''.turned (t':=s''.toks) (it:=C) (fun b o hb e=>hsb.extBut b o hb e) hCn neL (.inr (ydw I2.sz hC)) neC (fun p hp z=>absurd (ycm (Heap.lt_size (I2.pin p hp).1) (by rw [z]; exact hC)) (yd3 _)),q⟩
end
theorem Jq{K:yc3}{a:Addr}{xs:List V}{js:List Nat}{tc:TT}{te:TE}{σ:St}{H:Hp}{Q:VK}(Pv:Nat→List V→Hp→Prop)(h0:Pv 0 [] H)(hl:∀i ys H,i≤xs.length→Pv i ys H→SqL K H a xs∧ys.length≤i)(hz:xs.length≤sizeLine)
  (hs:∀i x ys H,xs[i]? =some x→Pv i ys H→tc (yJ js σ (some x)) H fun b H2=>if b=true then te (yJ js σ (some x)) H2 fun y H3=>Pv (i + 1) (ys ++ [y]) H3 else Pv (i + 1) ys H2)
  (hd:∀ys H,Pv xs.length ys H→∀p,H p=none→Q (.ref p) (upd H p (.lst ys))) :
  LCw js σ tc te Q (Itl K a) H:=by
 refine⟨fun i m ys H=>m=xs.length - i∧i≤xs.length∧Pv i ys H,⟨xs.length,by simp,yd9 _,h0⟩, ?_⟩
 rintro i m ys H ⟨rfl,hi,p⟩
 obtain⟨q,hy⟩:=hl i ys H hi p
 by_cases hlt:i < xs.length
 ·refine .inr ⟨⟨xs,xs[i],q,by simp [hlt]⟩,by omega,Pv (i + 1),fun ys' H' p'=>⟨xs.length - (i + 1),by omega,rfl,hlt,p'⟩,fun x H' y=> ?_⟩
  obtain⟨e,y⟩:=y
  subst e
  exact hs i x ys _ (y xs q) p
 ·have e:i=xs.length:=by omega
  subst e
  exact .inl ⟨⟨xs,q,yc6 _⟩,by omega,hd ys H p⟩
theorem ybu{K:yc3}{a:Addr}{xs:List V}{js:List Nat}{tc:TT}{te:TE}{σ:St}{H:Hp}{Q:VK}(Pv:Nat→List V→Hp→Prop)(h0:Pv 0 [] H)(hl:∀i ys H,i≤xs.length→Pv i ys H→SqT K H a xs∧ys.length≤i)(hz:xs.length≤sizeLine)
  (hs:∀i x ys H,xs[i]? =some x→Pv i ys H→tc (yJ js σ (some x)) H fun b H2=>if b=true then te (yJ js σ (some x)) H2 fun y H3=>Pv (i + 1) (ys ++ [y]) H3 else Pv (i + 1) ys H2)
  (hd:∀ys H,Pv xs.length ys H→∀p,H p=none→Q (.ref p) (upd H p (.lst ys))) :
  LCw js σ tc te Q (Itt K a) H:=by
 refine⟨fun i m ys H=>m=xs.length - i∧i≤xs.length∧Pv i ys H,⟨xs.length,by simp,yd9 _,h0⟩, ?_⟩
 rintro i m ys H ⟨rfl,hi,p⟩
 obtain⟨q,hy⟩:=hl i ys H hi p
 by_cases hlt:i < xs.length
 ·refine .inr ⟨⟨xs,xs[i],q,by simp [hlt]⟩,by omega,Pv (i + 1),fun ys' H' p'=>⟨xs.length - (i + 1),by omega,rfl,hlt,p'⟩,fun x H' y=> ?_⟩
  obtain⟨e,y⟩:=y
  subst e
  exact hs i x ys _ (y xs q) p
 ·have e:i=xs.length:=by omega
  subst e
  exact .inl ⟨⟨xs,q,yc6 _⟩,by omega,hd ys H p⟩
end L2
namespace L2
open PySem PySem.Spec PyProof.Rows
section
variable{X:Cx}
theorem Yn:bootBuiltins "len" =some (.builtin "len"):=by decide +kernel
theorem Wj:bootBuiltins "int" =some (.type "int"):=by decide +kernel
theorem y90:bootBuiltins "bool" =some (.type "bool"):=by decide +kernel
theorem y1e:bootBuiltins "list" =some (.type "list"):=by decide +kernel
theorem ya7:bootBuiltins "dict" =some (.type "dict"):=by decide +kernel
theorem y7t:bootBuiltins "tuple" =some (.type "tuple"):=by decide +kernel
theorem Mu:bootBuiltins "set" =some (.type "set"):=by decide +kernel
theorem Yw:bootBuiltins "isinstance" =some (.builtin "isinstance"):=by decide +kernel
theorem y43:bootBuiltins "max" =some (.builtin "max"):=by decide +kernel
theorem Vu:bootBuiltins "sorted" =some (.builtin "sorted"):=by decide +kernel
theorem y30:bootBuiltins "all" =some (.builtin "all"):=by decide +kernel
def iSeq(K:yc3)(tl:TE):TI:=fun σ H R=>tl σ H fun x H1=>∃a,x= .ref a∧(((∃xs,SqL K H1 a xs)∧R (Itl K a) H1)∨((∃xs,SqT K H1 a xs)∧R (Itt K a) H1))
theorem yax{tg l:Expr}{tl:TE}(hl:PE X l tl):PI X tg l (iSeq X.K tl):=by
 intro pins s σ H R I h
 refine thn (hl pins s σ H _ I h) fun v s1 ⟨x,H1,I1,r1,q1⟩=> ?_
 obtain⟨a,e,⟨⟨xs,hq⟩,q⟩ | ⟨⟨xs,hq⟩,q⟩⟩:=q1
 ·subst e
  cases r1
  obtain⟨its,rv,p,hz⟩:=I1.list hq
  refine wpAny_pyIter_list p.isList ?_
  refine⟨s1.heap.objs.size, [s1.heap.objs.size],_,_,H1,rfl,I1.kept (t':=s1.toks) fun b o e=>Heap.get?_push_of_some _ e,xI a _,⟨_,Heap.get?_push_size _ rfl,rfl,rfl⟩,fun b hb=> ?_,q⟩
  have e:b=s1.heap.objs.size:=by simpa using hb
  subst e
  exact I1.fpOk (yc6 _) (I1.hok.fresh (yc6 _))
 ·subst e
  cases r1
  obtain⟨its,rv,p,hz⟩:=I1.tuple hq
  refine wpAny_pyIter_tuple (show s1.heap.IsTuple a its.toArray from p) ?_
  refine⟨s1.heap.objs.size, [s1.heap.objs.size],_,_,H1,rfl,I1.kept (t':=s1.toks) fun b o e=>Heap.get?_push_of_some _ e,y1m a _,⟨_,Heap.get?_push_size _ rfl,rfl,rfl⟩,fun b hb=> ?_,q⟩
  have e:b=s1.heap.objs.size:=by simpa using hb
  subst e
  exact I1.fpOk (yc6 _) (I1.hok.fresh (yc6 _))
theorem Jr{K:yc3}(h:X.K=K):IxR X (Qm K):=h ▸ Yy
theorem V5{K:yc3}(h:X.K=K):IxR X (rIxL K):=h ▸ yS
theorem z5{K:yc3}(h:X.K=K):OpR X (compareOp .NotIn) (rIn K true):=h ▸ Wz
theorem yav(bs:List Bool)(tr:Nat→Bool)(h:∀i b,bs[i]? =some b→tr i=b):(ycd bs.length).all tr=bs.all id:=by
 rw [yf3,ye9,ye9]
 constructor
 ·intro q b hb
  obtain⟨i,hi⟩:=yd1.mp hb
  have hl:i < bs.length:=(yc5.mp hi).1
  have e:=q i (ycs.mpr hl)
  rw [h i b hi] at e
  exact e
 ·intro q i hi
  have hl:=ycs.mp hi
  have e:bs[i]? =some bs[i]:=yc4 hl
  rw [h i _ e]
  exact q _ (yg1 hl)
theorem zP(hc:X.calm=true):Jd X (.builtin "all") (fun xs H Q=>∃(p:Addr) (bs:List Bool),xs= [.ref p]∧SqL X.K H p (bs.map V.bl)∧Q (.bl (bs.all id)) H):=by
 intro pins s σ H xs us Q I r h
 obtain⟨p,bs,rfl,hq,q⟩:=h
 obtain⟨u,rfl,rx⟩:=jR r
 cases rx
 obtain⟨its,rv,pl,hz⟩:=I.list hq
 have hlen:bs.length=its.length:=by have:=rv.length; rwa [yc2] at this
 have hv:∀(i:Nat) (v:Value),its[i]? =some v→∃b,bs[i]? =some b∧v= .bool b:=fun i v e=>by
  have hi:i < bs.length:=by rw [hlen]; exact(yc5.mp e).1
  have e1:(bs.map V.bl)[i]? =some (.bl bs[i]):=by rw [yca,yc4 hi]; rfl
  obtain⟨u,hu,ru⟩:=rv.get e1
  rw [e] at hu; cases hu
  exact⟨bs[i],yc4 hi,ru⟩
 have hp:p < s.heap.objs.size:=let ⟨_,ho,_⟩:=pl.isList; Heap.lt_size ho
 refine call_all_walk (wpAny_pyIter_list pl.isList ?_)
 refine⟨s.heap.objs.size,_,_,_,_,_,fun i=>bs.getD i false,rfl,Walks.list (A:=X.A.in1) (I.ok.hd hc) s.heap.objs.size p (ycj hp) its.toArray,⟨⟨_,Heap.get?_push_size _ rfl,rfl,rfl⟩,pl.isList.at fun o e=>Heap.get?_push_of_some _ e⟩, ?_,fun h' tk hk=> ?_⟩
 ·intro i v s Q E hP hQ
  have hP':its[i]? =some v:=by simpa using hP
  obtain⟨b,hb,rfl⟩:=hv i v hP'
  have e:bs.getD i false=b:=by rw [ycc,hb]; rfl
  have hQ':Q (bs.getD i false) s:=hQ
  rw [e] at hQ'
  exact wpAny_truthy_bool hQ'
 ·have e:(ycd its.toArray.size).all (fun i=>bs.getD i false)=bs.all id:=by
   rw [yc7,←hlen]
   exact yav bs _ fun i b hb=>by rw [ycc,hb]; rfl
  rw [e]
  refine⟨.bl _,H,I.kept (h':=h') (t':=tk) fun b o hb=>hk b o ?_ (Heap.get?_push_of_some _ hb),rfl,q⟩
  intro z
  have z':b=s.heap.objs.size:=by simpa using z
  exact absurd (Heap.lt_size hb) (by rw [z']; exact yd3 _)
theorem Mw:Jd X (.builtin "isinstance") (fun xs H Q=>∃(x:V) (n:String) (t:Value) (b:Bool),xs= [x, .ty n]∧TyOf X.K H x t∧yd7 X.K t (.type n)=some b∧Q (.bl b) H):=by
 intro pins s σ H xs us Q I r h
 obtain⟨x,n,t,b,rfl,ty,e,q⟩:=h
 obtain⟨u,u2,rfl,rx,r2⟩:=MT r
 cases r2
 exact y3h I rx ty e fun tk=>⟨.bl b,H,I.tok _,rfl,q⟩
theorem int_at{ns:List Int}{its:List Value}(r:yz (ns.map V.int) its){j:Nat}(h:j < its.length):∃n t,ns[j]? =some n∧its[j]= .int n t:=by
 have hl:=r.length
 rw [yc2] at hl
 have hj:j < ns.length:=by omega
 have e1:(ns.map V.int)[j]? =some (.int ns[j]):=by rw [yca,yc4 hj]; rfl
 obtain⟨u,hu,t,rfl⟩:=r.get e1
 rw [yc4 h] at hu
 exact⟨ns[j],t,yc4 hj,Option.some.inj hu⟩
theorem LP{ns ms:List Int}(hl:ns.length=ms.length):(ycd ns.length).all (fun j=>ns.getD j 0 == ms.getD j 0)=decide (ns=ms):=by
 rw [yf3,ye9,decide_eq_true_iff]
 constructor
 ·intro q
  refine List.ext_getElem hl fun j h1 h2=> ?_
  have e:=q j (ycs.mpr h1)
  rw [beq_iff_eq,ycc,ycc,yc4 h1,yc4 h2] at e
  exact e
 ·rintro rfl j _
  exact beq_self_eq_true _
def rEqL(K:yc3)(neg:Bool):R2:=fun x y H Q=>∃(p q:Addr) (ns ms:List Int),x= .ref p∧y= .ref q∧SqL K H p (ns.map V.int)∧SqL K H q (ms.map V.int)∧Q (.bl (if neg then !decide (ns=ms) else decide (ns=ms))) H
theorem Zf{A:Around}{s:Shared}{ns ms:List Int}{its its2:List Value}(r:yz (ns.map V.int) its)(r2:yz (ms.map V.int) its2) :
  ∀j (h1:j < its.toArray.size) (h2:j < its2.toArray.size),SeqAt.EqAt A s its.toArray[j] its2.toArray[j] (ns.getD j 0 == ms.getD j 0):=fun j h1 h2=>by
 obtain⟨n,t,e,e'⟩:=int_at r (j:=j) (by simpa using h1)
 obtain⟨m,t2,e2,e2'⟩:=int_at r2 (j:=j) (by simpa using h2)
 rw [yih,yih,e',e2',ycc,ycc,e,e2]
 exact SeqAt.EqAt.int_int n t m t2
theorem op_eqL(hu:X.A.units < cLine):OpR X (compareOp .Eq) (rEqL X.K false):=by
 intro pins s σ H x y v u Q I rx ry h
 obtain⟨p,q,ns,ms,rfl,rfl,h1,h2,hQ⟩:=h
 cases rx; cases ry
 obtain⟨its,r,pl,hz⟩:=I.list h1
 obtain⟨its2,r2,pl2,hz2⟩:=I.list h2
 have l1:=r.length; rw [yc2] at l1
 have l2:=r2.length; rw [yc2] at l2
 by_cases hl:ns.length=ms.length
 ·refine SeqAt.eq_listAt (e:=fun j=>ns.getD j 0 == ms.getD j 0) pl.isList pl2.isList (by rw [yc7,yc7]; omega) hu (Zf r r2) ⟨.bl _,H,I,rfl, ?_⟩
  rw [yc7,←l1,LP hl]
  exact hQ
 ·have e:decide (ns=ms)=false:=decide_eq_false fun z=>hl (by rw [z])
  refine SeqAt.eq_list_lengthsAt pl.isList pl2.isList (by rw [yc7,yc7,←l1,←l2]; simpa using hl) hu ⟨.bl false,H,I,rfl, ?_⟩
  rw [e] at hQ; exact hQ
theorem yb6(hu:X.A.units < cLine):OpR X (compareOp .NotEq) (rEqL X.K true):=by
 intro pins s σ H x y v u Q I rx ry h
 obtain⟨p,q,ns,ms,rfl,rfl,h1,h2,hQ⟩:=h
 cases rx; cases ry
 obtain⟨its,r,pl,hz⟩:=I.list h1
 obtain⟨its2,r2,pl2,hz2⟩:=I.list h2
 have l1:=r.length; rw [yc2] at l1
 have l2:=r2.length; rw [yc2] at l2
 by_cases hl:ns.length=ms.length
 ·refine SeqAt.RcNeAt.lists (e:=fun j=>ns.getD j 0 == ms.getD j 0) pl.isList pl2.isList (by rw [yc7,yc7]; omega) hu (Zf r r2) X.prog X.w X.xe _ ⟨.bl _,H,I,rfl, ?_⟩
  rw [yc7,←l1,LP hl]
  exact hQ
 ·have e:decide (ns=ms)=false:=decide_eq_false fun z=>hl (by rw [z])
  refine SeqAt.RcNeAt.lists_lengths pl.isList pl2.isList (by rw [yc7,yc7,←l1,←l2]; simpa using hl) hu X.prog X.w X.xe _ ⟨.bl true,H,I,rfl, ?_⟩
  rw [e] at hQ; exact hQ
def rEqT(K:yc3)(neg:Bool):R2:=fun x y H Q=>∃(p q:Addr) (ns ms:List Int),x= .ref p∧y= .ref q∧SqT K H p (ns.map V.int)∧SqT K H q (ms.map V.int)∧ns.length=ms.length∧Q (.bl (if neg then !decide (ns=ms) else decide (ns=ms))) H
theorem yap(hu:X.A.units < cLine):OpR X (compareOp .NotEq) (rEqT X.K true):=by
 intro pins s σ H x y v u Q I rx ry h
 obtain⟨p,q,ns,ms,rfl,rfl,h1,h2,hl,hQ⟩:=h
 cases rx; cases ry
 obtain⟨its,r,pl,hz⟩:=I.tuple h1
 obtain⟨its2,r2,pl2,hz2⟩:=I.tuple h2
 have l1:=r.length; rw [yc2] at l1
 have l2:=r2.length; rw [yc2] at l2
 refine SeqAt.RcNeAt.tuples (e:=fun j=>ns.getD j 0 == ms.getD j 0) pl pl2 hu (Zf r r2) X.prog X.w X.xe _ ⟨.bl _,H,I,rfl, ?_⟩
 have e1:min its.toArray.size its2.toArray.size=ns.length:=by rw [yc7,yc7]; omega
 have e2:(its.toArray.size == its2.toArray.size)=true:=by rw [yc7,yc7,beq_iff_eq]; omega
 rw [e1,e2,LP hl,Bool.and_true]
 exact hQ
abbrev Tups(H:Hp):List Addr→List (List Int)→Prop:=Paired fun a ks=>H a=some (.tup (ks.map V.int))
def rSetD:V→List V→Hp→VK→Prop:=fun x vs H Q=>∃(a:Addr) (kvs:List (Key × V)) (k:Key) (d:V),x= .ref a∧vs= [kV k,d]∧H a=some (.dK kvs)∧kvs.length < sizeLine∧
 (∀v,YM kvs k=some v→Q v H)∧(YM kvs k=none→Q d (upd H a (.dK (J2 kvs k d))))
theorem xZ:MtR X "dict.setdefault" rSetD:=by
 intro pins s σ H x vs v us Q I rx rv h
 obtain⟨a,kvs,k,d,rfl,rfl,ha,hz,q1,q2⟩:=h
 cases rx
 obtain⟨u,u2,rfl,ru,ru2⟩:=MT rv
 obtain⟨z,hd,ws,rel,dd⟩:=ZT I.hok ha
 refine call_meetsIn ygw dd.typeIs PySem.F.entry_dict_setdefault (PySem.F.args_dict_setdefault_3 _ _ _) (kt_meets_setdefault (yL X.prog X.w) a (Lv ru) hd u2) ⟨ws,dd,by rw [←rel.length]; exact z,fun w hw=> ?_,fun hn h' dd' hs=> ?_⟩
 ·have e:=rel.val k
  rw [hw] at e
  cases hv:YM kvs k with
  | none=>rw [hv] at e; exact e.elim
  | some y=>
   rw [hv] at e
   exact⟨y,H,I.tok _,e,q1 y hv⟩
 ·have e:YM kvs k=none:=by
   have e:=rel.val k
   rw [hn] at e
   cases hv:YM kvs k with
   | none=>rfl
   | some y=>rw [hv] at e; exact e.elim
  have he:∃q,h'.get? a=some q:=let ⟨q,_,_,hq,_⟩:=dd'; ⟨q,hq⟩
  refine⟨d,_,ZW (ob:= .dK (J2 kvs k d)) I (by rw [ha]; exact True.intro) hs he (W6 ?_ hd (rel.put k ru2) dd'),ru2,q2 e⟩
  rw [ME d e,ycr,yd5]
  omega
theorem QI{its:List Value}{ns:List Int}(h:IntsAre its ns):yz (ns.map V.int) its:=by
 induction h with
 | nil=>exact .nil
 | cons n t _ ih=>exact .cons ⟨_,rfl⟩ ih
theorem Wq{pins:List (Addr × Obj)}{σ:St}{H:Hp}{s:Shared}{vs:List Value}{ns:List Int}{A:Around}{E:Value→Shared→Prop}{Q:VK}(I:Inv X pins σ H s)
  (hI:IntsAre vs ns) (h64:vs.length < 64) (q:∀ns':List Int,ns'.Perm ns→ns'.Pairwise (· ≤ ·)→∀p,H p=none→Q (.ref p) (upd H p (.lst (ns'.map V.int)))) :
  wpAny (model X.prog X.w) A (call (.builtin "list.sort") [.ref s.heap.objs.size]) (fun _ s'=>EP X pins σ Q (.ref s.heap.objs.size) s') E {s with heap:=s.heap.push (seqObj "list" vs.toArray 0)}:=by
 have hoL:(s.heap.push (seqObj "list" vs.toArray 0)).get? s.heap.objs.size=some (seqObj "list" vs.toArray 0):=Heap.get?_push_size _ rfl
 refine wpAny_call_entry slot_list_sort ⟨_,hoL,rfl⟩ entry_list_sort (list_sort_tree hoL hI h64 fun out ns' a1 a2 a3=>⟨_,rfl, ?_⟩) (args_list_sort _)
 obtain⟨e,he⟩:=sortedHeap_at (vs:=vs) (out:=out) hoL
 refine⟨.ref s.heap.objs.size,_,I.laid (a:=s.heap.objs.size) (o:= .lst (ns'.map V.int)) (t':=s.toks) (fun b o hb=> ?_) (yc6 _) ?_,rfl,q ns' a2 a3 _ (I.hok.fresh (yc6 _))⟩
 ·have hlt:=Heap.lt_size hb
  show(sortedHeap (s.heap.push (seqObj "list" vs.toArray 0)) s.heap.objs.size vs out).get? b=some o
  rw [sortedHeap_old (ycj hlt) (by rw [size_push']; exact ydi hlt)]
  exact Heap.get?_push_of_some _ hb
 ·have r:=QI a1
  refine⟨?_,out.toList,e,r, ?_⟩
  ·have l1:=r.length
   have l2:=a2.length_eq
   have l3:=(QI hI).length
   rw [yc2] at l1 l3 ⊢
   rw [sizeLine_eq]; omega
  ·show(sortedHeap (s.heap.push (seqObj "list" vs.toArray 0)) s.heap.objs.size vs out).get? s.heap.objs.size=_
   rw [he]
theorem y63{P:Program}{w:World}{kvs:List (Key × V)}{ks:List Int}{ws:List (Key × Value)}(hk:kvs.map (·.1)=ks.map Sum.inl)(rel:KV kvs ws){vs:List Value}(hl:vs.length=ws.length)
  (h:∀(j:Nat) (v:Value),vs[j]? =some v→∃k x,ws[j]? =some (k,x)∧(yL P w).is k v=true):IntsAre vs ks:=by
 have hk':ws.map (·.1)=ks.map Sum.inl:=by rw [←rel.keys]; exact hk
 clear rel hk
 induction vs generalizing ws ks with
 | nil=>
  cases ws with
  | nil=>
   cases ks with
   | nil=>exact .nil
   | cons _ _=>cases hk'
  | cons _ _=>cases hl
 | cons v vs ih=>
  cases ws with
  | nil=>cases hl
  | cons w0 ws=>
   cases ks with
   | nil=>cases hk'
   | cons k0 ks=>
    have e1:w0.1=Sum.inl k0:=(List.cons.inj hk').1
    have e2:=(List.cons.inj hk').2
    obtain⟨k,x,hx,his⟩:=h 0 v rfl
    have ew:w0=(k,x):=Option.some.inj hx
    subst ew
    have ek:k=Sum.inl k0:=e1
    subst ek
    obtain⟨t,rfl⟩:=Value.isInt_shape (k:=k0) (v:=v) his
    exact .cons _ _ (ih (by simpa using hl) (fun j v hj=>h (j + 1) v hj) e2)
theorem LS(hc:X.calm=true):Jd X (.builtin "sorted") (fun xs H Q=>∃(p:Addr) (kvs:List (Key × V)) (ks:List Int),xs= [.ref p]∧H p=some (.dK kvs)∧kvs.map (·.1)=ks.map Sum.inl∧ks.length < 64∧
  ∀ns':List Int,ns'.Perm ks→ns'.Pairwise (· ≤ ·)→∀l,H l=none→Q (.ref l) (upd H l (.lst (ns'.map V.int)))):=by
 intro pins s σ H xs us Q I r h
 obtain⟨p,kvs,ks,rfl,hq,hks,h64,q⟩:=h
 obtain⟨u,rfl,rx⟩:=jR r
 cases rx
 obtain⟨z,hd,ws,rel,dd⟩:=ZT I.hok hq
 obtain⟨ep,hat⟩:=dd.dictAt
 have hl1:ws.length=ks.length:=by
  have e:=congrArg ygg hks
  rw [yc2,yc2] at e
  rw [←rel.length]; exact e
 refine Calls.call_function_entry kind_sorted plain_sorted entry_sorted (args_sorted1 _) ?_
 unfold Builtin.«sorted»
 refine wpAny_bind (m:=checkCount "sorted" 1 1 _) (wpAny_pure ?_)
 refine wpAny_bind (ygx (A:=X.A.in1) (PySem.W.kdl_dict (knd:=yL X.prog X.w) (kvs:=ws) (ep:=ep) hd) (I.ok.hd hc) hat (by rw [sizeLine_eq]; omega) fun h' tk acc hk hacc=> ?_)
 have hl:acc.toList.length=ws.length:=by rw [ycn]; exact hacc.1
 refine wpAny_bind (wpAny_newList ?_ (by rw [hl,sizeLine_eq]; omega))
 have I':Inv X pins σ H {s with heap:=h',toks:=tk}:=I.kept hk
 have hI:IntsAre acc.toList ks:=y63 hks rel hl fun j v hj=>hacc.2 j v (by rw [←ycy]; exact hj)
 refine wpAny_bind (wpAny_holding (wpAny_mono (Wq (A:=X.A.in1) (E:=X.xe) I' hI (by omega) q) (fun _ s' x=> ?_) fun _ _ e=>e))
 exact wpAny_pure ⟨_,rfl,x⟩
theorem y4k:typeLookup (.type "list_reverseiterator") "__len__" =pure none:=by rw [typeLookup_type,builtinLookup_eq_fast]; kernel_rfl
theorem y82:typeLookup (.type "list_reverseiterator") "__length_hint__" =pure (some (.builtin "list_reverseiterator.__length_hint__")):=by rw [typeLookup_type,builtinLookup_eq_fast]; kernel_rfl
section
variable{prog:Program}{w:World}{A:Around}{E:Value→Shared→Prop}{s:Shared}
theorem y6e{r:Addr}{Q:Bool→Shared→Prop}(hT:s.TypeIs (.ref r) "list_reverseiterator")(h:Q false s):wpAny (model prog w) A (Builtin.List.listLengthHint (.ref r)) Q E s:=by
 unfold Builtin.List.listLengthHint
 refine wpAny_bind (wpAny_specialOf hT y4k ?_)
 show wpAny _ A (specialOf (Value.ref r) (Str.ofString "__length_hint__") >>= _) _ _ _
 refine wpAny_bind (wpAny_specialOf hT y82 ?_)
 (generalize hid:("list_reverseiterator.__length_hint__" :String)=id0; (fail_if_success (clear hid id0)); wp_delta; rw [show splitId id0=some ("list_reverseiterator","__length_hint__") from by subst hid; decide +kernel]; subst hid)
 refine wpAny_bind (wpAny_isInstance (b:=true) hT (by rw [isSubtype_type]; kernel_rfl) ?_)
 exact wpAny_pure h
variable{I:Addr}{fp wr:List Addr}{G:Array GenState→Array GenState→Prop}{n:Nat}{P:Nat→Value→Prop}{Sn:Nat→Shared→Prop}{R:Result→Shared→Prop}
theorem yak(W:WalksS prog w A.in1 I fp wr G n P Sn)(hT:∀i s,Sn i s→s.TypeIs (.ref I) "list_reverseiterator")(S:Addr)(res:Value)(c₀:Nat)(hst:Sn 0 s)(hSf:S ∉ fp)(hI:I ∈ fp)
  (hS:s.heap.get? S=some {cls:= .type "list",data:= .seq #[] c₀})
  (hR:∀s' acc' c',Moved (S :: wr) G s s'→s'.heap.get? S=some {cls:= .type "list",dict:=none,data:= .seq acc' c',slots:=#[]}→ItemsOf P acc' n→R (.ok (.ret res)) s') (hn:n≤sizeLine) :
  wpAny (model prog w) A.in1 (Builtin.List.listExtendWith (.ref S) (.ref I) res)
   (fun fin s'=>match fin with | .done f=>R (.ok f) s' | .again c'=>c'.quiet=true∧codeAny (model prog w) A c' R s') (fun e s'=>R (.error e) s') s:=by
 have hSI:S ≠ I:=fun e=>hSf (e ▸ hI)
 unfold Builtin.List.listExtendWith
 refine wpAny_bind (wpAny_typeOf (hT 0 _ hst) ?_)
 have h1:Builtin.List.listSameRef (.ref S) (.ref I)=false:=by simp [Builtin.List.listSameRef,hSI]
 have h2:(Value.type "list_reverseiterator" == Value.type "list")=false:=by decide
 have h3:(Value.type "list_reverseiterator" == Value.type "tuple")=false:=by decide
 simp only [h1,h2,h3,Bool.or_false,ydo,if_false]
 refine wpAny_bind (W.self 0 _ _ _ hst ?_)
 refine wpAny_bind (wpAny_holding (y6e (hT 0 _ hst) ?_))
 rw [if_neg (by decide)]
 refine wpAny_pure ⟨plainId_quiet yer _,codeAny_extend_loopS W hn _ hSf _ n 0 _ _ _ rfl (yd9 _) hst hS (ItemsOf.nil P) fun s' acc' c' hm hS' hacc=> ?_⟩
 exact hR s' acc' c' hm hS' hacc
theorem y7g(W:WalksS prog w A.in1 I fp wr G n P Sn)(hT:∀i s,Sn i s→s.TypeIs (.ref I) "list_reverseiterator")(S:Addr)(hst:Sn 0 s)(hSf:S ∉ fp)(hI:I ∈ fp)
  (hS:s.heap.get? S=some {cls:= .type "list",data:= .seq #[]})
  (hR:∀s' acc' c',Moved (S :: wr) G s s'→s'.heap.get? S=some {cls:= .type "list",dict:=none,data:= .seq acc' c',slots:=#[]}→ItemsOf P acc' n→R (.ok (.ret .none)) s') (hn:n≤sizeLine) :
  wpAny (model prog w) A.in1 (Builtin.«list.__init__» ⟨[.ref S, .ref I], []⟩)
   (fun fin s'=>match fin with | .done f=>R (.ok f) s' | .again c'=>c'.quiet=true∧codeAny (model prog w) A c' R s') (fun e s'=>R (.error e) s') s:=by
 show wpAny _ A.in1 (do let old ←Builtin.List.listItems (.ref S); Builtin.List.listUpdate (.ref S) (fun _=>#[]); letGo old.toList.reverse; Builtin.List.listExtendWith (.ref S) (.ref I) .none) _ _ s
 refine wpAny_bind ?_
 unfold Builtin.List.listItems
 refine wpAny_bind (wpAny_seqItems hS rfl (wpAny_pure ?_))
 show wpAny _ A.in1 (updateSeq S (fun _=>#[]) >>= fun _=>letGo (#[]:Array Value).toList.reverse >>= fun _=>Builtin.List.listExtendWith (.ref S) (.ref I) .none) _ _ s
 refine wpAny_bind (wpAny_updateSeq hS rfl ?_)
 have hS₂:=Heap.get?_update_self (Obj.mapSeq (fun _=>(#[]:Array Value))) hS rfl
 have oth:∀b o,b ≠ S→s.heap.get? b=some o→(s.heap.update S (Obj.mapSeq (fun _=>(#[]:Array Value)))).get? b=some o:=
  fun b o hb e=>(Heap.get?_update_other _ _ (Ne.symm hb)).trans e
 refine wpAny_bind (wpAny_letGo ?_)
 refine yak (hn:=hn) W hT S .none _ (W.frame 0 s _ s.toks hst (yc6 _) fun b hb o e=>oth b o (fun h=>hSf (h ▸ hb)) e) hSf hI hS₂ fun s' acc' c' hm hS' hacc=> ?_
 exact hR s' acc' c' (Moved.trans W.gtrans ((Moved.refl W.grefl).then_heap (yc6 _) fun b o hb e=>oth b o (fun h=>hb (h ▸ yc8)) e) hm) hS' hacc
theorem xV{Q:Value→Shared→Prop}(W:WalksS prog w A.in1.in1 I fp wr G n P Sn)(hT:∀i s,Sn i s→s.TypeIs (.ref I) "list_reverseiterator")(hst:Sn 0 s)(hfp:∀b ∈ fp,b < s.heap.objs.size)(hI:I ∈ fp)
  (hQ:∀s' acc' c',Moved (s.heap.objs.size :: wr) G {s with heap:=s.heap.push {cls:= .type "list",data:= .seq #[]}} s'→
   s'.heap.get? s.heap.objs.size=some {cls:= .type "list",dict:=none,data:= .seq acc' c',slots:=#[]}→ItemsOf P acc' n→Q (.ref s.heap.objs.size) s') (hn:n≤sizeLine) :
  wpAny (model prog w) A (call (.type "list") [.ref I]) Q E s:=by
 have hSf:s.heap.objs.size ∉ fp:=fun hm=>yd3 _ (hfp _ hm)
 refine callType_codes (Q₁:=fun obj s₁=>obj= .ref s.heap.objs.size∧s₁={s with heap:=s.heap.push {cls:= .type "list",data:= .seq #[]}}) yio (yhq _) yhr
  (code_list_new _ ⟨rfl,rfl⟩) fun obj s₁ h₁=> ?_
 obtain⟨rfl,rfl⟩:=h₁
 have hS:(s.heap.push {cls:= .type "list",data:= .seq #[]}).get? s.heap.objs.size=some {cls:= .type "list",data:= .seq #[]}:=Heap.get?_push_size _ rfl
 refine⟨⟨_,hS,rfl⟩,yhg _ _,y7g (hn:=hn) W hT _ (W.frame 0 s _ s.toks hst (yc6 _) fun b _ o e=>Heap.get?_push_of_some _ e) hSf hI hS fun s' acc' c' hm hS' hacc=> ?_⟩
 exact⟨rfl,hQ s' acc' c' hm hS' hacc⟩
end
def tRevL(K:yc3)(te:TE):TE:=fun σ H Q=>te σ H fun x H1=>∃(a:Addr) (xs:List V),x= .ref a∧SqL K H1 a xs∧∀p,H1 p=none→Q (.ref p) (upd H1 p (.lst xs.reverse))
theorem y3x{xs:List V}{its:List Value}{acc:List Value}(r:yz xs its)(hl:acc.length=its.length)(h:∀(j:Nat) (v:Value),acc[j]? =some v→its[its.length - 1 - j]? =some v):acc=its.reverse:=by
 refine yf7 fun j=> ?_
 by_cases hj:j < acc.length
 ·rw [yc4 hj,List.getElem?_reverse (by omega)]
  exact(h j _ (yc4 hj)).symm
 ·rw [yd6 (by omega),yd6 (by rw [yg4]; omega)]
theorem yz.rev:∀{xs:List V} {its:List Value},yz xs its→yz xs.reverse its.reverse
 | _,_, .nil=> .nil
 | _,_, .cons r t=>by
  rw [yeu,yeu]
  exact(yz.rev t).append (.cons r .nil)
theorem qd{e:Expr}{te:TE}{p1 p2 pos1 pos2:Pos}(hc:X.calm=true)(hg1:Gl X "list")(hm1:X.mg "list" =none)(hg2:Gl X "reversed")(hm2:X.mg "reversed" =none)(he:PE X e te)
  (hs1:starEach [.Call (.Name "reversed" p2) [e] [] pos2] X.env= [(false,eval (.Call (.Name "reversed" p2) [e] [] pos2) X.env)]:=by rfl) (hs2:starEach [e] X.env= [(false,eval e X.env)]:=by rfl) :
  PE X (.Call (.Name "list" p1) [.Call (.Name "reversed" p2) [e] [] pos2] [] pos1) (tRevL X.K te):=by
 intro pins s σ H Q I h
 refine Call_ (JP I hg1 hm1 boot_list (PyProof.Rows.callWith_type1 ?_ hs1 rfl))
 rw [hs1]
 refine Calls.spliced_cons (Call_ (JP I hg2 hm2 boot_reversed (PyProof.Rows.callWith_type1 ?_ hs2 rfl)))
 rw [hs2]
 refine Calls.spliced_cons (thn (he pins s σ H _ I h) fun u s1 ⟨x,H1,I1,r1,a,xs,ex,hq,q⟩=>Calls.spliced_nil ?_)
 subst ex
 cases r1
 obtain⟨its,rv,pl,hz⟩:=I1.list hq
 refine call_reversed_list pl.isList (Calls.spliced_nil ?_)
 have ha:a < s1.heap.objs.size:=let ⟨_,ho,_⟩:=pl.isList; Heap.lt_size ho
 have hlen:=rv.length
 have I2:Inv X pins σ H1 {s1 with heap:=s1.heap.push (revObj a ((its.toArray.size:Int) - 1))}:=I1.kept (t':=s1.toks) fun b o e=>Heap.get?_push_of_some _ e
 refine xV (Walks.listRev (A:=X.A.in1.in1) (I.ok.hd hc) s1.heap.objs.size a (ycj ha) its.toArray).toS (fun i s h=>h.2.1.typeIs) ⟨yd9 _,⟨_,Heap.get?_push_size _ rfl,rfl,by simp [revObj]⟩,pl.isList.at fun o e=>Heap.get?_push_of_some _ e⟩ (fun b hb=> ?_) (by simp) (fun s' acc' c' hm hS hacc=> ?_) (by rw [yc7]; omega)
 ·show b < (s1.heap.push _).objs.size
  rw [size_push']
  rcases ycg.mp hb with e | e
  ·rw [e]; exact yeh _
  ·rw [ycb.mp e]; exact ydi ha
 ·have hacc1:acc'.toList.length=its.length:=by rw [ycn]; have:=hacc.1; rwa [yc7] at this
  have e:acc'.toList=its.reverse:=y3x rv hacc1 fun j v hj=>by
   have:=hacc.2 j v (by rw [←ycy]; exact hj)
   rw [yc7] at this
   simpa using this
  have D:(s1.heap.push (revObj a ((its.toArray.size:Int) - 1))).objs.size=s1.heap.objs.size + 1:=size_push' ..
  have old:∀b o,s1.heap.get? b=some o→s'.heap.get? b=some o:=fun b o hb=>by
   have hlt:=Heap.lt_size hb
   refine hm.heap b o (fun z=> ?_) (Heap.get?_push_of_some _ (Heap.get?_push_of_some _ hb))
   rcases ycg.mp z with z | z
   ·have z':b=(s1.heap.push (revObj a ((its.toArray.size:Int) - 1))).objs.size:=z
    rw [D] at z'
    rw [z'] at hlt
    exact absurd hlt (yhk.mpr (yez _))
   ·have z':b=s1.heap.objs.size:=by simpa using z
    rw [z'] at hlt
    exact absurd hlt (yd3 _)
  rw [Moved.eq_with hm]
  refine⟨.ref _,_,I1.laid (a:=(s1.heap.push (revObj a ((its.toArray.size:Int) - 1))).objs.size) (o:= .lst xs.reverse) (t':=s'.toks) old (by rw [D]; exact yez _) ⟨by rw [yg4]; exact hz,its.reverse,c',rv.rev, ?_⟩,rfl,q _ (I1.hok.fresh (by rw [D]; exact yez _))⟩
  show s'.heap.get? _=_
  rw [hS,←e]
end
end L2
namespace Toy
open PySem L2 Gra
theorem yb{H:Hp}{p:Addr}(h:H p=none)(o:HO):yg H (upd H p o):=fun b u q=>by rw [yi (ym q h)]; exact q
theorem YV{H H2:Hp}{p:Addr}(s:yg H H2)(h:H p=none)(o:HO):yg H (upd H2 p o):=fun b u q=>by rw [yi (ym q h)]; exact s b u q
theorem JB{n:Nat}(h:n≤1000):n≤sizeLine:=yed (JM h)
theorem Ml{ns:List Int}{i:Nat}{y:V}(h:(ns.map V.int)[i]? =some y):∃z,y=V.int z∧ns[i]? =some z:=by
 rw [yca] at h
 cases e:ns[i]? with
 | none=>rw [e] at h; cases h
 | some z=>rw [e] at h; exact⟨z,(Option.some.inj h).symm,rfl⟩
theorem LN{ns:List Int}{i:Nat}{z:Int}(h:ns[i]? =some z):atI (ns.map V.int) (i:Int)=some (.int z):=JF (by rw [yca,h]; rfl)
theorem yE{α:Type}{l:List α}{i:Nat}{x:α}(h:l[i]? =some x):l.take (i + 1)=l.take i ++ [x]:=by
 rw [List.take_add_one,h]; rfl
theorem Mm{c:Prop}[Decidable c]{te:TE}{i:Nat}{D:Ends}{σ:St}{H:Hp}(G:V→Hp→Prop)(h1:(∀v H',G v H'→D.nx (σ.set i (some v)) H')→c→te σ H (fun x H1=>D.nx (σ.set i (some x)) H1))
  (h2:¬c→∃v,σ.set i (some v)=σ∧G v H) (key:∀v H',G v H'→D.nx (σ.set i (some v)) H'):if c then tAsg te (QP i) D σ H else y2n D σ H:=by
 by_cases hc:c
 ·rw [if_pos hc]
  exact h1 key hc
 ·rw [if_neg hc]
  obtain⟨v,e,g⟩:=h2 hc
  have:=key v H g
  rw [e] at this
  exact this
def pr(p:Int × Int):List V:= [.int p.1, .int p.2]
def yo(H:Hp)(l:Addr)(ps:y8):Prop:=∃as:List Addr,H l=some (.lst (as.map V.ref))∧Paired (fun a p=>H a=some (.tup (pr p))) as ps
def InR(n:Int)(ps:y8):Prop:=∀p ∈ ps,(0≤p.1∧p.1 < n)∧(0≤p.2∧p.2 < n)
theorem yo.mono{H H':Hp}{l:Addr}{ps:y8}(s:yg H H')(h:yo H l ps):yo H' l ps:=by
 obtain⟨as,h1,h2⟩:=h
 exact⟨as,s _ _ h1,Paired.mapP h2 fun _ _ e=>s _ _ e⟩
theorem paired_at{α β:Type}{F:α→β→Prop}:∀{as:List α} {ps:List β} {i:Nat} {a:α},Paired F as ps→as[i]? =some a→∃p,ps[i]? =some p∧F a p
 | _,_,_,_, .nil,h=>by simp at h
 | _,_,0,_, .cons e _,h=>by simp at h; subst h; exact⟨_,rfl,e⟩
 | _,_,i + 1,a, .cons _ t,h=>by
  obtain⟨p,h1,h2⟩:=paired_at (i:=i) (a:=a) t (by simpa using h)
  exact⟨p,by simpa using h1,h2⟩
theorem Vz{α β:Type}{F:α→β→Prop}:∀{as:List α} {ps:List β} {i:Nat} {p:β},Paired F as ps→ps[i]? =some p→∃a,as[i]? =some a∧F a p
 | _,_,_,_, .nil,h=>by simp at h
 | _,_,0,_, .cons e _,h=>by simp at h; subst h; exact⟨_,rfl,e⟩
 | _,_,i + 1,a, .cons _ t,h=>by
  obtain⟨p,h1,h2⟩:=Vz (i:=i) (p:=a) t (by simpa using h)
  exact⟨p,by simpa using h1,h2⟩
theorem jO{H:Hp}{as:List Addr}{ps:y8}(t:Paired (fun a p=>H a=some (.tup (pr p))) as ps){i:Nat}{y:V}(h:(as.map V.ref)[i]? =some y):∃a p,y=V.ref a∧ps[i]? =some p∧H a=some (.tup (pr p)):=by
 rw [yca] at h
 cases e:as[i]? with
 | none=>rw [e] at h; cases h
 | some a=>
  rw [e] at h
  obtain⟨p,h1,h2⟩:=paired_at t e
  exact⟨a,p,(Option.some.inj h).symm,h1,h2⟩
theorem Paired.len{α β:Type}{F:α→β→Prop}{as:List α}{ps:List β}(t:Paired F as ps):as.length=ps.length:=Paired.length t
theorem qV{H:Hp}{as:List Addr}{ps:y8}(t:Paired (fun a p=>H a=some (.tup (pr p))) as ps):Tups H as (ps.map fun p=> [p.1,p.2]):=by
 induction t with
 | nil=>exact .nil
 | cons e _ ih=>exact .cons e ih
theorem y58{ps:y8}{a b:Int}: [a,b] ∈ ps.map (fun p=> [p.1,p.2])↔(a,b) ∈ ps:=by
 constructor
 ·intro h
  obtain⟨p,hp,e⟩:=ycf.mp h
  injection e with e1 e2
  injection e2 with e2 _
  have:p=(a,b):=by cases p; simp at e1 e2; rw [e1,e2]
  rw [←this]; exact hp
 ·intro h
  exact ycf.mpr ⟨(a,b),h,rfl⟩
def Jw(ps:y8)(k:Int):List Int:=(ps.filter fun p=>decide (p.1=k)).map (·.2)
theorem Me(ps:y8)(p:Int × Int)(k:Int):Jw (ps ++ [p]) k=if p.1=k then Jw ps k ++ [p.2] else Jw ps k:=by
 unfold Jw
 rw [ye7]
 by_cases e:p.1=k
 ·rw [if_pos e,ydb,if_pos (decide_eq_true e),ygt,yci]; rfl
 ·rw [if_neg e,ydb,if_neg (by simpa using e),ygt,ye0]
theorem Lw{ps:y8}{k e:Int}:e ∈ Jw ps k↔(k,e) ∈ ps:=by
 unfold Jw
 constructor
 ·intro h
  obtain⟨p,hp,he⟩:=ycf.mp h
  obtain⟨h1,h2⟩:=yd0.mp hp
  have h2':p.1=k:=of_decide_eq_true h2
  have:p=(k,e):=by cases p; simp at h2' he; rw [h2',he]
  rw [←this]; exact h1
 ·intro h
  exact ycf.mpr ⟨(k,e),yd0.mpr ⟨h,by simp⟩,rfl⟩
theorem y2p(ps:y8)(k:Int):(Jw ps k).length≤ps.length:=by
 unfold Jw
 rw [yc2]; exact ydp _ _
abbrev Tab:=List (Int × Addr)
def JQ(tab:Tab):List (Key × V):=tab.map fun q=>(Sum.inl q.1,V.ref q.2)
structure EndsTab (H:Hp) (d:Addr) (ps:y8) (tab:Tab):Prop where
 dict:H d=some (.dK (JQ tab))
 nd:(tab.map (·.1)).Nodup
 na:(tab.map (·.2)).Nodup
 ls:∀q ∈ tab,H q.2=some (.lst ((Jw ps q.1).map V.int))
 all:∀p ∈ ps,p.1 ∈ tab.map (·.1)
def qp(H:Hp)(d:Addr)(ps:y8):Prop:=∃tab,EndsTab H d ps tab
theorem qp.mono{H H':Hp}{d:Addr}{ps:y8}(s:yg H H')(h:qp H d ps):qp H' d ps:=by
 obtain⟨tab,e⟩:=h
 exact⟨tab,s _ _ e.dict,e.nd,e.na,fun q hq=>s _ _ (e.ls q hq),e.all⟩
theorem ZH{tab:Tab}{k:Int}{v:V}(h:YM (JQ tab) (Sum.inl k:Key)=some v):∃q ∈ tab,q.1=k∧v= .ref q.2:=by
 induction tab with
 | nil=>cases h
 | cons q r ih=>
  unfold YM JQ at h
  rw [ycv,ye6] at h
  by_cases e:(Sum.inl q.1:Key)=Sum.inl k
  ·rw [decide_eq_true e] at h
   exact⟨q,yc8,Sum.inl.inj e,(Option.some.inj h).symm⟩
  ·rw [decide_eq_false e] at h
   obtain⟨q',h1,h2,h3⟩:=ih h
   exact⟨q',yc9 _ h1,h2,h3⟩
theorem Zx{tab:Tab}{k:Int}(h:YM (JQ tab) (Sum.inl k:Key)=none):k ∉ tab.map (·.1):=by
 intro m
 obtain⟨q,hq,e⟩:=ycf.mp m
 refine y76 h (ycf.mpr ⟨(Sum.inl q.1,V.ref q.2),ycf.mpr ⟨q,hq,rfl⟩,by rw [←e]⟩)
theorem xQ:∀{t u:Tab},JQ t=JQ u→t=u
 | [], [],_=>rfl
 | [],_ :: _,h=>by cases h
 | _ :: _, [],h=>by cases h
 | (x,a) :: t,(y,b) :: u,h=>by
  have h':((Sum.inl x:Key),V.ref a) :: JQ t=((Sum.inl y:Key),V.ref b) :: JQ u:=h
  injection h' with h1 h2
  injection h1 with h1 h3
  injection h1 with h1
  injection h3 with h3
  rw [h1,h3,xQ h2]
theorem y55(tab:Tab):(JQ tab).length=tab.length:=yc2 _
def je:Option Int→V
 | none=> .non
 | some p=> .int p
def Yh(t:yW):List (Key × V):=t.map fun q=>(Sum.inl q.1,je q.2)
theorem QU(t:yW):(Yh t).length=t.length:=yc2 _
theorem VW(t:yW):(Yh t).map (·.1)=(keys t).map Sum.inl:=by
 unfold Yh keys
 rw [ydg,ydg]; rfl
theorem Qq(t:yW)(k:Int):YM (Yh t) (Sum.inl k:Key)=(look t k).map je:=by
 induction t with
 | nil=>rfl
 | cons q r ih=>
  unfold YM Yh look at ih ⊢
  rw [ycv,ye6,ye6]
  by_cases e:q.1=k
  ·have e':(Sum.inl q.1:Key)=Sum.inl k:=by rw [e]
   rw [decide_eq_true e,decide_eq_true e']; rfl
  ·have e':¬(Sum.inl q.1:Key)=Sum.inl k:=fun z=>e (Sum.inl.inj z)
   rw [decide_eq_false e,decide_eq_false e']
   exact ih
theorem y64{t:yW}{k p:Int}(h:k ∉ keys t):J2 (Yh t) (Sum.inl k:Key) (.int p)=Yh (t ++ [(k,some p)]):=by
 rw [ME _ (by rw [Qq,xg h]; rfl)]
 unfold Yh
 rw [yci]; rfl
theorem JG(t:yW)(k:Int):(YM (Yh t) (Sum.inl k:Key)).isSome=decide (k ∈ keys t):=by
 rw [Qq,yfv,y7p]
end Toy
namespace Toy
open PySem L2 Gra
theorem zL{n:Nat}{js:List Nat}{tc:TT}{te:TE}{σ:St}{H:Hp}{Q:VK}(Pv:Nat→List V→Hp→Prop)(h0:Pv 0 [] H)(hl:∀i ys H,i≤n→Pv i ys H→ys.length≤i)(hz:n≤sizeLine)
  (hs:∀i ys H,i < n→Pv i ys H→tc (yJ js σ (some (.int (0 + (i:Int))))) H fun b H2=>if b=true then te (yJ js σ (some (.int (0 + (i:Int))))) H2 fun y H3=>Pv (i + 1) (ys ++ [y]) H3 else Pv (i + 1) ys H2)
  (hd:∀ys H,Pv n ys H→∀p,H p=none→Q (.ref p) (upd H p (.lst ys))) :
  LCw js σ tc te Q (Itr 0 n) H:=by
 refine⟨fun i m ys H=>m=n - i∧i≤n∧Pv i ys H,⟨n,by simp,yd9 _,h0⟩, ?_⟩
 rintro i m ys H ⟨rfl,hi,p⟩
 have hy:=hl i ys H hi p
 by_cases hlt:i < n
 ·refine .inr ⟨hlt,by omega,Pv (i + 1),fun ys' H' p'=>⟨n - (i + 1),by omega,rfl,hlt,p'⟩,fun x H' y=> ?_⟩
  obtain⟨e,y⟩:=y
  subst e y
  exact hs i ys _ hlt p
 ·have e:i=n:=by omega
  subst e
  exact .inl ⟨yc6 _,by omega,hd ys H p⟩
theorem y8k{K:yc3}{a:Addr}{xs:List V}{js:List Nat}{tc:TT}{te:TE}{σ:St}{H:Hp}{Q:VK}(f:V→Bool)(g:V→V)(hxs:H a=some (.lst xs))(hz:xs.length≤1000)
  (hc:∀x ∈ xs,∀H2,yg H H2→∀R:Bool→Hp→Prop,(∀H3,yg H2 H3→R (f x) H3)→tc (yJ js σ (some x)) H2 R)
  (he:∀x ∈ xs,f x=true→∀H2,yg H H2→∀R:V→Hp→Prop,(∀H3,yg H2 H3→R (g x) H3)→te (yJ js σ (some x)) H2 R)
  (hd:∀H' p,yg H H'→H' p=none→Q (.ref p) (upd H' p (.lst ((xs.filter f).map g)))):LCw js σ tc te Q (Itl K a) H:=by
 refine Jq (K:=K) (a:=a) (xs:=xs) (fun i ys H2=>yg H H2∧ys=((xs.take i).filter f).map g) ⟨yg.refl _,rfl⟩ (fun i ys H2 hi ⟨s2,e⟩=> ?_) (JB hz) (fun i x ys H2 hx ⟨s2,e⟩=> ?_) (fun ys H2 ⟨s2,e⟩ p hp=> ?_)
 ·subst e
  refine⟨SqL.of (s2 _ _ hxs), ?_⟩
  have h1:=ydp f (xs.take i)
  rw [yd4] at h1
  rw [yc2]; omega
 ·subst e
  have hm:=yce hx
  refine hc x hm H2 s2 _ fun H3 s3=> ?_
  rw [yE hx,ye7,yci]
  cases c:f x with
  | false=>
   have e0: [x].filter f= []:=by rw [ydb,if_neg (by rw [c]; exact ycp)]; rfl
   rw [e0,yfg,ye0]
   exact Y0 ⟨s2.trans s3,rfl⟩
  | true=>
   have e0: [x].filter f= [x]:=by rw [ydb,if_pos c]; rfl
   rw [e0]
   exact yT (he x hm c H3 (s2.trans s3) _ fun H4 s4=>⟨(s2.trans s3).trans s4,rfl⟩)
 ·subst e
  rw [yd8]
  exact hd H2 p s2 hp
theorem Qt{n:Nat}{js:List Nat}{tc:TT}{te:TE}{σ:St}{H:Hp}{Q:VK}(f:Nat→Bool)(g:Nat→V)(hz:n≤1000)
  (hc:∀i < n,∀H2,yg H H2→∀R:Bool→Hp→Prop,(∀H3,yg H2 H3→R (f i) H3)→tc (yJ js σ (some (.int (0 + (i:Int))))) H2 R)
  (he:∀i < n,f i=true→∀H2,yg H H2→∀R:V→Hp→Prop,(∀H3,yg H2 H3→R (g i) H3)→te (yJ js σ (some (.int (0 + (i:Int))))) H2 R)
  (hd:∀H' p,yg H H'→H' p=none→Q (.ref p) (upd H' p (.lst (((ycd n).filter f).map g)))):LCw js σ tc te Q (Itr 0 n) H:=by
 refine zL (n:=n) (fun i ys H2=>yg H H2∧ys=((ycd i).filter f).map g) ⟨yg.refl _,rfl⟩ (fun i ys H2 hi ⟨s2,e⟩=> ?_) (JB hz) (fun i ys H2 hi ⟨s2,e⟩=> ?_) (fun ys H2 ⟨s2,e⟩ p hp=> ?_)
 ·subst e
  have h1:=ydp f (ycd i)
  rw [yd2] at h1
  rw [yc2]; omega
 ·subst e
  refine hc i hi H2 s2 _ fun H3 s3=> ?_
  rw [yfq,ye7,yci]
  cases c:f i with
  | false=>
   have e0: [i].filter f= []:=by rw [ydb,if_neg (by rw [c]; exact ycp)]; rfl
   rw [e0,yfg,ye0]
   exact Y0 ⟨s2.trans s3,rfl⟩
  | true=>
   have e0: [i].filter f= [i]:=by rw [ydb,if_pos c]; rfl
   rw [e0]
   exact yT (he i hi c H3 (s2.trans s3) _ fun H4 s4=>⟨(s2.trans s3).trans s4,rfl⟩)
 ·subst e
  exact hd H2 p s2 hp
theorem y9v{K:yc3}{a:Addr}{xs:List V}{js:List Nat}{te:TE}{σ:St}{H:Hp}{Q:VK}(Fr:Hp→Addr→V→Prop)(mono:∀H1 H2 b x,yg H1 H2→Fr H1 b x→Fr H2 b x)(hxs:H a=some (.lst xs))(hz:xs.length≤1000)
  (he:∀x ∈ xs,∀H2,yg H H2→∀R:V→Hp→Prop,(∀b H3,yg H2 H3→Fr H3 b x→R (.ref b) H3)→te (yJ js σ (some x)) H2 R)
  (hd:∀H' p bs,yg H H'→H' p=none→Paired (Fr H') bs xs→Q (.ref p) (upd H' p (.lst (bs.map V.ref)))):LCw js σ MS te Q (Itl K a) H:=by
 refine Jq (K:=K) (a:=a) (xs:=xs) (fun i ys H2=>yg H H2∧∃bs:List Addr,ys=bs.map V.ref∧Paired (Fr H2) bs (xs.take i)) ⟨yg.refl _, [],rfl, .nil⟩ (fun i ys H2 hi ⟨s2,bs,e,hb⟩=> ?_) (JB hz) (fun i x ys H2 hx ⟨s2,bs,e,hb⟩=> ?_) (fun ys H2 ⟨s2,bs,e,hb⟩ p hp=> ?_)
 ·subst e
  refine⟨SqL.of (s2 _ _ hxs), ?_⟩
  have:=Paired.len hb
  rw [yd4] at this
  rw [yc2]; omega
 ·subst e
  refine VD (yT (he x (yce hx) H2 s2 _ fun b H3 s3 fr=>⟨s2.trans s3,bs ++ [b],by rw [yci]; rfl, ?_⟩))
  rw [yE hx]
  exact Paired.snoc (Paired.mapP hb fun c y z=>mono _ _ _ _ s3 z) fr
 ·subst e
  rw [yd8] at hb
  exact hd H2 p bs s2 hp hb
theorem Qh{n:Nat}{js:List Nat}{te:TE}{σ:St}{H:Hp}{Q:VK}(Fr:Hp→Addr→Nat→Prop)(mono:∀H1 H2 b x,yg H1 H2→Fr H1 b x→Fr H2 b x)(hz:n≤1000)
  (he:∀i < n,∀H2,yg H H2→∀R:V→Hp→Prop,(∀b H3,yg H2 H3→Fr H3 b i→R (.ref b) H3)→te (yJ js σ (some (.int (0 + (i:Int))))) H2 R)
  (hd:∀H' p bs,yg H H'→H' p=none→Paired (Fr H') bs (ycd n)→Q (.ref p) (upd H' p (.lst (bs.map V.ref)))):LCw js σ MS te Q (Itr 0 n) H:=by
 refine zL (n:=n) (fun i ys H2=>yg H H2∧∃bs:List Addr,ys=bs.map V.ref∧Paired (Fr H2) bs (ycd i)) ⟨yg.refl _, [],rfl, .nil⟩ (fun i ys H2 hi ⟨s2,bs,e,hb⟩=> ?_) (JB hz) (fun i ys H2 hi ⟨s2,bs,e,hb⟩=> ?_) (fun ys H2 ⟨s2,bs,e,hb⟩ p hp=> ?_)
 ·subst e
  have:=Paired.len hb
  rw [yd2] at this
  rw [yc2]; omega
 ·subst e
  refine VD (yT (he i hi H2 s2 _ fun b H3 s3 fr=>⟨s2.trans s3,bs ++ [b],by rw [yci]; rfl, ?_⟩))
  rw [yfq]
  exact Paired.snoc (Paired.mapP hb fun c y z=>mono _ _ _ _ s3 z) fr
 ·subst e
  exact hd H2 p bs s2 hp hb
theorem y7f{K:yc3}{l:Addr}{as:List Addr}{ps:y8}{js:List Nat}{tc:TT}{te:TE}{σ:St}{H:Hp}{Q:VK}(f:Int × Int→Bool)(g:Int × Int→V)(hl:H l=some (.lst (as.map V.ref)))(hp:Paired (fun a p=>H a=some (.tup (pr p))) as ps)(hz:ps.length≤1000)
  (hc:∀a,∀p ∈ ps,∀H2,yg H H2→H2 a=some (.tup (pr p))→∀R:Bool→Hp→Prop,(∀H3,yg H2 H3→R (f p) H3)→tc (yJ js σ (some (.ref a))) H2 R)
  (he:∀a,∀p ∈ ps,f p=true→∀H2,yg H H2→H2 a=some (.tup (pr p))→∀R:V→Hp→Prop,(∀H3,yg H2 H3→R (g p) H3)→te (yJ js σ (some (.ref a))) H2 R)
  (hd:∀H' p,yg H H'→H' p=none→Q (.ref p) (upd H' p (.lst ((ps.filter f).map g)))):LCw js σ tc te Q (Itl K l) H:=by
 have hpl:=Paired.len hp
 have hml:(as.map V.ref).length=ps.length:=by rw [yc2]; exact hpl
 refine Jq (K:=K) (a:=l) (xs:=as.map V.ref) (fun i ys H2=>yg H H2∧ys=((ps.take i).filter f).map g) ⟨yg.refl _,rfl⟩ (fun i ys H2 hi ⟨s2,e⟩=> ?_) (by rw [hml]; exact JB hz) (fun i x ys H2 hx ⟨s2,e⟩=> ?_) (fun ys H2 ⟨s2,e⟩ p hpn=> ?_)
 ·subst e
  refine⟨SqL.of (s2 _ _ hl), ?_⟩
  have h1:=ydp f (ps.take i)
  rw [yd4] at h1
  rw [yc2]; omega
 ·subst e
  obtain⟨a,p,rfl,hpi,ha⟩:=jO hp hx
  have hm:=yce hpi
  refine hc a p hm H2 s2 (s2 _ _ ha) _ fun H3 s3=> ?_
  rw [yE hpi,ye7,yci]
  cases c:f p with
  | false=>
   have e0: [p].filter f= []:=by rw [ydb,if_neg (by rw [c]; exact ycp)]; rfl
   rw [e0,yfg,ye0]
   exact Y0 ⟨s2.trans s3,rfl⟩
  | true=>
   have e0: [p].filter f= [p]:=by rw [ydb,if_pos c]; rfl
   rw [e0]
   exact yT (he a p hm c H3 (s2.trans s3) ((s2.trans s3) _ _ ha) _ fun H4 s4=>⟨(s2.trans s3).trans s4,rfl⟩)
 ·subst e
  rw [hml,yd8]
  exact hd H2 p s2 hpn
theorem y9y{K:yc3}{a:Addr}{ns:List Int}{js:List Nat}{tc:TT}{te:TE}{σ:St}{H:Hp}{Q:VK}(f:Int→Bool)(g:Int→V)(hxs:H a=some (.lst (ns.map V.int)))(hz:ns.length≤1000)
  (hc:∀x ∈ ns,∀H2,yg H H2→∀R:Bool→Hp→Prop,(∀H3,yg H2 H3→R (f x) H3)→tc (yJ js σ (some (.int x))) H2 R)
  (he:∀x ∈ ns,f x=true→∀H2,yg H H2→∀R:V→Hp→Prop,(∀H3,yg H2 H3→R (g x) H3)→te (yJ js σ (some (.int x))) H2 R)
  (hd:∀H' p,yg H H'→H' p=none→Q (.ref p) (upd H' p (.lst ((ns.filter f).map g)))):LCw js σ tc te Q (Itl K a) H:=by
 let fv:V→Bool:=fun v=>match v with | .int x=>f x | _=>false
 let gv:V→V:=fun v=>match v with | .int x=>g x | _=> .non
 refine y8k (K:=K) (xs:=ns.map V.int) fv gv hxs (by rw [yc2]; exact hz) (fun v hv H2 s2 R hR=> ?_) (fun v hv c H2 s2 R hR=> ?_) (fun H2 p s2 hp=> ?_)
 ·obtain⟨x,hx,rfl⟩:=ycf.mp hv
  exact hc x hx H2 s2 R hR
 ·obtain⟨x,hx,rfl⟩:=ycf.mp hv
  exact he x hx c H2 s2 R hR
 ·have e:((ns.map V.int).filter fv).map gv=(ns.filter f).map g:=by
   rw [yi1,ydg]; rfl
  rw [e]
  exact hd H2 p s2 hp
theorem y6f{K:yc3}{a:Addr}{ns:List Int}{js:List Nat}{te:TE}{σ:St}{H:Hp}{Q:VK}(g:Int→V)(hxs:H a=some (.lst (ns.map V.int)))(hz:ns.length≤1000)
  (he:∀x ∈ ns,∀H2,yg H H2→∀R:V→Hp→Prop,(∀H3,yg H2 H3→R (g x) H3)→te (yJ js σ (some (.int x))) H2 R)
  (hd:∀H' p,yg H H'→H' p=none→Q (.ref p) (upd H' p (.lst (ns.map g)))):LCw js σ MS te Q (Itl K a) H:=by
 refine y9y (K:=K) (fun _=>true) g hxs hz (fun x hx H2 s2 R hR=>VD (hR H2 (yg.refl _))) (fun x hx _=>he x hx) (fun H2 p s2 hp=> ?_)
 rw [List.filter_eq_self.mpr fun _ _=>rfl]
 exact hd H2 p s2 hp
end Toy
namespace L2
open PySem PySem.Spec PyProof.Rows
theorem yR.ex{P:Program}{w:World}{H:Hp}{h:Heap}{a:Addr}{o:HO}(x:yR P w H h a o):∃ob,h.get? a=some ob:=by
 cases o with
 | lst xs=>obtain⟨_,_,_,_,e⟩:=x; exact⟨_,e⟩
 | tup xs=>obtain⟨_,_,_,o,e,_⟩:=x; exact⟨_,e⟩
 | dK kvs=>obtain⟨_,_,_,_,o,_,_,e,_⟩:=x; exact⟨_,e⟩
 | dT kvs=>obtain⟨_,_,_,_,o,_,_,e,_⟩:=x; exact⟨_,e⟩
 | set S n=>obtain⟨o,_,_,_,e,_⟩:=x; exact⟨_,e⟩
 | ins C dx fs=>obtain⟨_,_,_,e,_⟩:=x; exact⟨_,e⟩
 | own y=>obtain⟨_,e⟩:=x; exact⟨_,e⟩
 | xd fs=>obtain⟨_,⟨_,_,_,e,_⟩,_⟩:=x; exact⟨_,e⟩
 | rng lo hi=>obtain⟨_,_,_,e⟩:=x; exact⟨_,e⟩
 | frz ob u=>obtain⟨e,_⟩:=x; exact⟨_,e⟩
 | tbl ps=>exact⟨_,(show h.get? a=some _ from x)⟩
 | met f y=>exact⟨_,(show h.get? a=some _ from x)⟩
 | ext φ=>obtain⟨_,⟨_,e⟩,_⟩:=x; exact⟨_,e⟩
theorem ya5{K:yc3}{h:Heap}{C:Addr}{bmB:List Value}{newId:String}(X:K.In h)(q:yf8 K C bmB newId=true) :
  ∃bm N nm qn bs hdct sn sub ab col dd k0 k1 k2 k3 k5 mN,h.get? C=some (excClassObj nm qn C N bs bm hdct sn sub ab col dd k0 k1 k2 k3 k5 newId)∧h.Ns N mN∧mN "__init__" =none∧OwnTail h bmB bm:=by
 unfold yf8 at q
 split at q
 ·rename_i dd cd sl ho
  split at q
  ·rename_i C' bm k0 k1 k2 k3 n k5 hm hs
   simp only [yeo,beq_iff_eq,yh6] at q
   obtain⟨⟨⟨⟨⟨rfl,rfl⟩,hdel⟩,ht⟩,hok⟩,hni⟩:=q
   obtain⟨nm,bs,mro,ns,qn,hd,sn,sub,ab,col,del⟩:=cd
   dsimp only at hm hdel hok hni
   subst hm hdel
   have hsl:sl=#[k0,k1,k2,k3,some (.builtin n),k5]:=by
    obtain⟨l⟩:=sl
    simp only at hs
    rw [hs]
   subst hsl
   exact⟨bm,ns,nm,qn,bs,hd,sn,sub,ab,col,dd,k0,k1,k2,k3,k5,_,X _ _ ho, .of_isNs (PySem.W.isNs_of_in X hok),PySem.W.nsMap_none_of_in X hok hni,PySem.W.tail_of_in X ht⟩
  ·cases q
 ·cases q
structure Flies (P:Program) (w:World) (outer:List Env) (H:Hp) (s:Shared) (E:XK) (x:Addr) (C:Value) (H':Hp) (B:Heap) (a0:Value) (s':Shared):Prop where
 os:s'.os=s.os
 bare:AllBare s'.gens
 un:Un (frs outer) [] H H' s.heap s'.heap
 hok:HOk P w H' s'.heap
 fly:Heap.FlyingW B outer x C a0 s'.heap
 old:∀b o,s.heap.get? b=some o→b ∉ frs outer→∃o',B.get? b=some o'
 trk:∀b u,H' b=some u→∃o',B.get? b=some o'
 wish:E C none H'
def CXr(P:Program)(w:World):CXT:=fun outer H s E e s'=>∃x C H' B a0,e= .ref x∧Flies P w outer H s E x C H' B a0 s'
section
variable{X:Cx}
theorem MN{x:Str}{np cpos pos:Pos}{e:Expr}{es:List Expr}{t:TA}{C:Addr}{bmB:List Value}{newId initId B:String}{E:XK}(FB:ExcBaseFacts B newId initId bmB)(hq:yf8 X.K C bmB newId=true)
  (hg:Gl X x) (hm:X.mg x=some (.ref C)) (hc:X.calm=true) (ha:PA X (e :: es) t)
  (hx:∀(pins:List (Addr × Obj)) (σ:St) (H:Hp) (s:Shared) (vs:List Value) (h':Heap) (a:Addr),Inv X pins σ H s→Heap.MadeExcOf s.heap h' a (.ref C) vs→E (.ref C) none H→X.xe (.ref a) {s with heap:=h'})
  (he:starEach (e :: es) X.env=(false,eval e X.env) :: starEach es X.env:=by rfl) (hplain:(backTo cpos (starEach es X.env)).any (·.1)=false:=by rfl) (hd:(x == ("__debug__" :Str))=false:=by decide) :
  PS X (.Raise (some (.Call (.Name x np) (e :: es) [] cpos)) none pos) (fun _ σ H=>t σ H fun vs H1=>vs.length≤sizeLine∧E (.ref C) none H1):=by
 intro pins s σ H D I h
 obtain⟨tl,N,nm,q,bs,hdct,sn,sub,ab,col,dd,k0,k1,k2,k3,k5,mN,hC,hN,hni,T⟩:=ya5 I.ok.mod.kin hq
 refine wpAny_Raise_call_subT (C:=C) (nm:=nm) (q:=q) (N:=N) (bs:=bs) (bm:=tl) (hdct:=hdct) (sn:=sn) (sub:=sub) (ab:=ab) (col:=col) (dd:=dd) (k0:=k0) (k1:=k1) (k2:=k2) (k3:=k3) (k5:=k5)
  FB (mN:=mN) (T.hasType FB.hasBase) (I.ok.hd hc) (by rw [he]; show(false || (backTo cpos (starEach es X.env)).any (·.1))=false; rw [hplain]; rfl) hni (Mi I hg hm ⟨rfl, ?_⟩ hd)
 have h2:=ha cpos pins s σ H _ I h
 rw [he] at h2 ⊢
 exact Calls.evalArgs_plain (wpAny_mono h2 (fun vs s₂ ⟨ws,H2,I2,r,z,hE⟩=>⟨rfl,by rw [←r.length]; exact z,I2.bk _ _ hC,hN.keeps I2.bk,T.keeps I2.bk,fun h' a M=>hx pins σ H2 s₂ vs h' a I2 M hE⟩) fun _ _ y=>y)
end
theorem Mb{P:Program}{w:World}{K:yc3}{mg:Str→Option Value}{base:Heap}{N:List Str}{qual:Str}{scope:Scope}{f:Addr}{cd:Value}{A:Around}{outer:List Env}{s:Shared}{H:Hp}{E:XK}{C:Addr}
  (pins:List (Addr × Obj)) (σ:St) (H':Hp) (s₂:Shared) (vs:List Value) (h':Heap) (a:Addr) (I:Inv (JU (CXr P w) P w K mg base N qual scope f cd A outer s H E) pins σ H' s₂) (M:Heap.MadeExcOf s₂.heap h' a (.ref C) vs) (hE:E (.ref C) none H') :
  (JU (CXr P w) P w K mg base N qual scope f cd A outer s H E).xe (.ref a) {s₂ with heap:=h'}:=by
 have hin:∀env ∈ (JU (CXr P w) P w K mg base N qual scope f cd A outer s H E).stack,∀b,env.frame=some b→b ∈ frs (JU (CXr P w) P w K mg base N qual scope f cd A outer s H E).stack:=fun env he b hb=>yfk.mpr ⟨env,he,hb⟩
 have sub:∀b,b ∈ frs outer→b ∈ frs (JU (CXr P w) P w K mg base N qual scope f cd A outer s H E).stack:=fun b hb=>by
  unfold frs
  show b ∈ List.filterMap _ (_ :: outer)
  rw [ye2]
  exact yc9 _ hb
 have inB:∀b o,s₂.heap.get? b=some o→b ∉ frs (JU (CXr P w) P w K mg base N qual scope f cd A outer s H E).stack→(yhw s₂.heap (frs (JU (CXr P w) P w K mg base N qual scope f cd A outer s H E).stack)).get? b=some o:=fun b o e n=>yil _ e n
 have nstk:∀b o,s.heap.get? b=some o→b ∉ frs outer→b ∉ frs (JU (CXr P w) P w K mg base N qual scope f cd A outer s H E).stack:=fun b o e n hb=>by
  rcases ycg.mp (I.stkSub b hb) with z | z
  ·exact absurd (Heap.lt_size e) (by rw [z]; exact yhk.mpr I.ok.above)
  ·exact n z
 refine wpAny_leaves_madeW (base:=yhw s₂.heap (frs (JU (CXr P w) P w K mg base N qual scope f cd A outer s H E).stack)) I.ok.frames rfl (fun b o q=>yis _ q) (PySem.W.funFrames_hide I.stack hin) M fun h'' t x1 x2 x3 x4=> ?_
 have stay:∀b o,s₂.heap.get? b=some o→b ∉ frs (JU (CXr P w) P w K mg base N qual scope f cd A outer s H E).stack→h''.get? b=some o:=fun b o e n=>x1.1 b o (inB b o e n)
 have slot:∀b o,s₂.heap.get? b=some o→b ∈ frs outer→∃sl,h''.get? b=some {o with slots:=sl}:=fun b o e hb=>by
  obtain⟨_,o',ho',hd⟩:=I.funs.mem hb
  rw [e] at ho'
  cases ho'
  exact x4 b o (M.keeps b o e) hd
 refine⟨a, .ref C,H',_, .ref t,rfl,I.os,I.bare,⟨fun b o e n hb hx=> ?_,fun b o e n hb hx=> ?_,I.base.free,fun b o e hx=> ?_,I.base.tups,I.base.frzs,I.base.tbls⟩,fun b u e=> ?_,x1,fun b o e n=> ?_,fun b u e=> ?_,hE⟩
 ·exact stay b o (I.base.keep b o e n hb hx) (nstk b o e hb)
 ·obtain⟨sl,e1⟩:=I.base.slot b o e n hb hx
  obtain⟨sl',e2⟩:=slot b _ e1 hb
  exact⟨sl',e2⟩
 ·obtain⟨o',e1⟩:=I.base.there b o e hx
  by_cases hb:b ∈ frs outer
  ·obtain⟨sl,e2⟩:=slot b o' e1 hb
   exact⟨_,e2⟩
  ·exact⟨o',stay b o' e1 (nstk b o e hb)⟩
 ·refine(I.hok b u e).stay (fun c v hc q=>stay c v q fun hm=> ?_) (fun _ q=>q) fun _ _ q=>q
  have z:=I.stkFree c hm
  rcases hc with rfl | hc
  ·rw [e] at z; cases z
  ·rw [hc] at z; cases z
 ·obtain⟨o',e1⟩:=I.base.there b o e (by show b ∉ ([]:List Addr); simp)
  exact⟨o',inB b o' e1 (nstk b o e n)⟩
 ·obtain⟨ob,e1⟩:=(I.hok b u e).ex
  refine⟨ob,inB b ob e1 fun hm=> ?_⟩
  have z:=I.stkFree b hm
  rw [e] at z; cases z
theorem Fun.okX{P:Program}{w:World}{K:yc3}{mg:Str→Option Value}{base:Heap}{x qual:Str}{st:Stmt}{f:Addr}{fd:FuncData}{N ps:List Str}{k:Nat}{sp:Sp}(F:Fun K x qual st f fd)(S:FnScope N ps (ya st))(len:∀vs H Q E,sp vs H Q E→vs.length=ps.length)
  (hbody:∀(cdv:Value) (A:Around) (outer:List Env) (s:Shared) (H:Hp) (vs:List V) (Q:VK) (E:XK),Room k (A.deeper (envOfC qual (ya st) s.heap.objs.size f cdv))→sp vs H Q E→
   ∃t,PSs (JU (CXr P w) P w K mg base N qual (ya st) f cdv A outer s H E) (yu st) t∧t {nx:=fun _ H'=>Q .non H',rt:=Q} (start N vs) H):FnOk P w K mg base (CXr P w) (k + 1) f fd ps sp:=by
 obtain⟨oc,od,kV,doc,pm,an,cdv,ct,osl,rfl,lk,hcd⟩:=F.ex
 exact zn lk hcd S len fun A outer s H vs Q E hr hsp=>hbody cdv A outer s H vs Q E hr hsp
def MI(a:Addr)(C:Value):HO:= .ext fun h=>∃oe vs,h.get? a=some oe∧oe.cls=C∧oe.data= .fields vs
section
variable{X:Cx}{pins:List (Addr × Obj)}{σ:St}{H H':Hp}{s s':Shared}{E:XK}{x:Addr}{C a0:Value}{B h':Heap}
theorem Flies.inv(I:Inv X pins σ H s)(F:Flies X.prog X.w X.stack H s E x C H' B a0 s'):Inv X pins σ H' s':=I.call' (ch:= []) F.os F.un F.hok F.bare (fun b z=>absurd z (by simp))
theorem Inv.fly(I:Inv X pins σ H s)(F:Flies X.prog X.w X.stack H s E x C H' B a0 s')(st:B.StaysIn h')(up:s'.heap.UpToSlots h'):Inv X pins σ H' {s' with heap:=h'}:=by
 have I1:=F.inv I
 have hold:∀b o o',s.heap.get? b=some o→b ∉ frs X.stack→s'.heap.get? b=some o'→h'.get? b=some o':=fun b o o' e n e'=>by
  obtain⟨o2,e2⟩:=F.old b o e n
  have e3:=F.fly.1 b o2 e2
  rw [e'] at e3
  cases e3
  exact st b o' e2
 have nst:∀b o,X.s₀.heap.get? b=some o→b ∉ X.fs→b ∉ frs X.stack:=fun b o e n hb=>by
  rcases ycg.mp (I.stkSub b hb) with z | z
  ·exact absurd (Heap.lt_size e) (by rw [z]; exact yhk.mpr I.ok.above)
  ·exact n z
 have slot:∀b o,s'.heap.get? b=some o→b ∈ X.fs→∃sl,h'.get? b=some {o with slots:=sl}:=fun b o e hb=>by
  obtain⟨_,o',ho',hd⟩:=I1.funs.mem hb
  rw [e] at ho'
  cases ho'
  exact up b o e hd
 have cellK:∀c v,s'.heap.IsCell c v→h'.IsCell c v:=fun c v ⟨o,ho,hd⟩=>by
  obtain⟨sl,e⟩:=up c o ho (fun vs q=>by rw [hd] at q; cases q)
  exact⟨_,e,hd⟩
 refine⟨I1.ok,I1.os,I1.bare,⟨fun b o e n hb hx=> ?_,fun b o e n hb hx=> ?_,I1.base.free,fun b o e hx=> ?_,I1.base.tups,I1.base.frzs,I1.base.tbls⟩, ?_,fun y c e=> ?_,I1.free,I1.freeC,fun p hp=> ?_,fun b u e=> ?_,I1.len⟩
 ·obtain⟨o1,e1⟩:=I.base.there b o e hx
  exact hold b o1 o e1 (nst b o e hb) (I1.base.keep b o e n hb hx)
 ·obtain⟨sl,e1⟩:=I1.base.slot b o e n hb hx
  obtain⟨sl',e2⟩:=slot b _ e1 hb
  exact⟨sl',e2⟩
 ·obtain⟨o1,e1⟩:=I.base.there b o e hx
  obtain⟨o2,e2⟩:=I1.base.there b o e hx
  by_cases hb:b ∈ X.fs
  ·obtain⟨sl,e3⟩:=slot b o2 e2 hb
   exact⟨_,e3⟩
  ·exact⟨o2,hold b o1 o2 e1 (nst b o e hb) e2⟩
 ·obtain⟨m,hn,hl⟩:=I1.loc
  refine⟨m,up.ns hn,fun i y v h1 h2 h3=> ?_⟩
  obtain⟨u,r,l⟩:=hl i y v h1 h2 h3
  refine⟨u,r, ?_⟩
  rcases l with l | ⟨k,c,e,z⟩
  ·exact .inl l
  ·exact .inr ⟨k,c,e,cellK c _ z⟩
 ·obtain⟨v,z⟩:=I1.cell y c e
  exact⟨v,cellK c v z⟩
 ·obtain⟨e,n,ne,nf,d⟩:=I1.pin p hp
  obtain⟨e0,_,ne0,nf0,_⟩:=I.pin p hp
  refine⟨hold p.1 p.2 p.2 e0 (fun hb=> ?_) e,n,ne,nf,d⟩
  rcases ycg.mp (I.stkSub _ hb) with z | z
  ·exact ne0 z
  ·exact nf0 z
 ·refine(I1.hok b u e).stay (fun c v hc q=> ?_) (fun _ q=>q) fun _ _ q=>q
  obtain⟨u',eu⟩:∃u',H' c=some u':=by
   rcases hc with rfl | hc
   ·exact⟨u,e⟩
   ·exact⟨_,hc⟩
  obtain⟨o2,e2⟩:=F.trk c u' eu
  have e3:=F.fly.1 c o2 e2
  rw [q] at e3
  cases e3
  exact st c v e2
theorem Inv.exc(I:Inv X pins σ H s)(F:Flies X.prog X.w X.stack H s E x C H' B a0 s')(J:Inv X pins σ H' {s' with heap:=h'})(fl:Heap.FlyingW B X.stack x C a0 h'):Inv X pins σ (upd H' x (MI x C)) {s' with heap:=h'}∧H' x=none:=by
 obtain⟨oe,ws,T,oT,ts,he,⟨hc,h0⟩,hd,_⟩:=fl.2.2.2
 have hx:B.get? x=none:=fl.2.1
 have hn:H' x=none:=by
  cases q:H' x with
  | none=>rfl
  | some u=>obtain⟨o,e⟩:=F.trk x u q; rw [hx] at e; cases e
 have nfr:x ∉ frs X.stack:=fun hm=>by
  obtain⟨_,o,ho,hnf⟩:=J.stack.mem hm
  have ho':h'.get? x=some o:=ho
  rw [he] at ho'
  cases ho'
  exact hnf _ hd
 have nold:s.heap.get? x=none:=by
  cases q:s.heap.get? x with
  | none=>rfl
  | some o=>
   obtain⟨o',e⟩:=F.old x o q nfr
   rw [hx] at e; cases e
 have n0:∀b o,X.s₀.heap.get? b=some o→b ∉ X.ex→b ≠ x:=fun b o e hx' z=>by
  obtain⟨o1,e1⟩:=I.base.there b o e hx'
  rw [z,nold] at e1; cases e1
 refine⟨⟨J.ok,J.os,J.bare,⟨J.base.keep,J.base.slot,fun b o e n hx'=> ?_,J.base.there,fun b xs e=> ?_,fun b o u e=> ?_,fun b ps e=> ?_⟩,J.loc,J.cell, ?_,fun y c e=> ?_,fun p hp=> ?_,HOk.track J.hok hn ⟨⟨oe,ws,he,hc,hd⟩,⟨oe,he⟩, ?_⟩,J.len⟩,hn⟩
 ·rw [yi (n0 b o e hx')]; exact J.base.free b o e n hx'
 ·have e':=J.base.tups b xs e
  rw [yi (ym e' hn)]; exact e'
 ·have e':=J.base.frzs b o u e
  rw [yi (ym e' hn)]; exact e'
 ·obtain⟨m,e'⟩:=J.base.tbls b ps e
  exact⟨m,by rw [yi (ym e' hn)]; exact e'⟩
 ·have ne:X.env.locals ≠ x:=fun z=>by
   obtain⟨m,⟨o,es,ep,ho,hdd,_⟩,_⟩:=J.loc
   have ho':h'.get? X.env.locals=some o:=ho
   rw [z,he] at ho'
   cases ho'
   rw [hd] at hdd; cases hdd
  rw [yi ne]; exact J.free
 ·have ne:c ≠ x:=fun z=>by
   obtain⟨v,o,ho,hdd⟩:=J.cell y c e
   have ho':h'.get? c=some o:=ho
   rw [z,he] at ho'
   cases ho'
   rw [hd] at hdd; cases hdd
  rw [yi ne]; exact J.freeC y c e
 ·obtain⟨e,n,ne,nf,d⟩:=J.pin p hp
  have np:p.1 ≠ x:=fun z=>by
   have:=(I.pin p hp).1
   rw [z,nold] at this; cases this
  exact⟨e,by rw [yi np]; exact n,ne,nf,d⟩
 ·rintro h1 h2 ⟨oe',vs',e1,e2,e3⟩ k
  exact⟨oe',vs',k oe' e1,e2,e3⟩
def exCx(X:Cx)(a:Addr):Cx:={X with A:=X.A.mark (some (.ref a)),calm:=false,xe:=fun _ _=>False}
theorem Inv.toEx(I:Inv X pins σ H s)(a:Addr):Inv (exCx X a) pins σ H s:=
 ⟨⟨I.ok.mod,I.ok.kind,I.ok.glob,I.ok.blt,I.ok.above,I.ok.inj,I.ok.has,I.ok.cab,fun h=>absurd (show false=true from h) (by decide),I.ok.frames,I.ok.stk,I.ok.exf,I.ok.bs,I.ok.bsz,I.ok.noex,I.ok.exfs,I.ok.funs,I.ok.frf⟩,I.os,I.bare,I.base,I.loc,I.cell,I.free,I.freeC,I.pin,I.hok,I.len⟩
theorem Inv.ofEx{a:Addr}(hd:X.calm=true→X.A.handled=none)(I:Inv (exCx X a) pins σ H s):Inv X pins σ H s:=
 ⟨⟨I.ok.mod,I.ok.kind,I.ok.glob,I.ok.blt,I.ok.above,I.ok.inj,I.ok.has,I.ok.cab,hd,I.ok.frames,I.ok.stk,I.ok.exf,I.ok.bs,I.ok.bsz,I.ok.noex,I.ok.exfs,I.ok.funs,I.ok.frf⟩,I.os,I.bare,I.base,I.loc,I.cell,I.free,I.freeC,I.pin,I.hok,I.len⟩
theorem M4{M:Model}{A:Around}{Ex:Value→Shared→Prop}{i:Nat}{n:Str}{pos:Pos}{Q:Unit→Shared→Prop}(I:Inv X pins σ H s)(hN:X.N.Nodup)(hi:X.N[i]? =some n)(hx:X.env.scope.names.lookup n=some .local)
  (h:∀s',Inv X pins (σ.set i none) H s'→Q () s'):wpAny M A (do bindName X.env n .none; unbindBehindTheSuite X.env n pos) Q Ex s:=by
 have hcls:(X.env.scope.kind == .class || (X.env.scope.kind == .module && X.env.locals != X.env.globals))=false:=by rw [I.ok.kind]; rfl
 refine wpAny_bind (wpAny_bindName (LQ (v:= .non) I hN hi (.inl hx) rfl (fun s1 I1=> ?_) (.inr hx)))
 obtain⟨m,hn,hl⟩:=id I1.loc
 have hiσ:i < σ.length:=by rw [I.len]; exact(yc5.mp hi).1
 obtain⟨u,r,l⟩:=hl i n .non hi (by rw [yem hiσ]) (.inl hx)
 have hm:m n=some u:=by
  rcases l with⟨_,e⟩ | ⟨k,_⟩
  ·exact e
  ·have hx':X.env.kindOf n=some .local:=hx
   rcases k with k | k
   ·rw [hx'] at k; cases k
   ·rw [hx'] at k; cases k
 unfold unbindBehindTheSuite
 refine wpAny_onRaise (wpAny_unbindName_local hx hn hm hcls fun h' u' hn' hs=> ?_)
 obtain⟨oL,_,_,hoL,_⟩:=id hn
 have ext:∀b o,b ≠ X.env.locals→s1.heap.get? b=some o→h'.get? b=some o:=fun b o hb e=>(hs.2 b hb).trans e
 have ne0:∀b o,X.s₀.heap.get? b=some o→b ≠ X.env.locals:=fun b o e=>ycj (ycm (Heap.lt_size e) I.ok.above)
 refine h _ ⟨I1.ok,I1.os,I1.bare,⟨fun b o e n' hb hx'=>ext b o (ne0 b o e) (I1.base.keep b o e n' hb hx'),fun b o e n' hb hx'=> ?_,I1.base.free,fun b o e hx'=> ?_,I1.base.tups,I1.base.frzs,I1.base.tbls⟩,⟨_,hn',fun j y v' e1 e2 e3=> ?_⟩,fun y c e=> ?_,I1.free,I1.freeC,fun p hp=> ?_,fun b u e=> ?_, ?_⟩
 ·obtain⟨sl,e1⟩:=I1.base.slot b o e n' hb hx'
  exact⟨sl,ext b _ (ne0 b o e) e1⟩
 ·obtain⟨o',e1⟩:=I1.base.there b o e hx'
  exact⟨o',ext b o' (ne0 b o e) e1⟩
 ·by_cases hj:j=i
  ·subst hj
   rw [yem hiσ] at e2
   cases e2
  ·rw [yet (Ne.symm hj)] at e2
   have e2':(σ.set i (some V.non))[j]? =some (some v'):=by rw [yet (Ne.symm hj)]; exact e2
   obtain⟨u2,r2,q⟩:=hl j y v' e1 e2' e3
   refine⟨u2,r2, ?_⟩
   rcases q with⟨k,e⟩ | ⟨k,c,e,z⟩
   ·refine .inl ⟨k, ?_⟩
    have:y ≠ n:=fun e=>hj (Qs hN e1 (e ▸ hi))
    simp [this,e]
   ·obtain⟨o,ho,hd⟩:=z
    exact .inr ⟨k,c,e,o,ext c o (I1.cne y c e) ho,hd⟩
 ·obtain⟨v,o,ho,hd⟩:=I1.cell y c e
  exact⟨v,o,ext c o (I1.cne y c e) ho,hd⟩
 ·obtain⟨e,n',ne,nf,d⟩:=I1.pin p hp
  exact⟨ext p.1 p.2 ne e,n',ne,nf,d⟩
 ·refine(I1.hok b u e).stay (fun c v hc q=>ext c v (fun z=> ?_) q) (fun _ q=>q) fun _ _ q=>q
  have fr:=I1.free
  rcases hc with rfl | hc
  ·rw [z] at e; rw [fr] at e; cases e
  ·rw [z] at hc; rw [fr] at hc; cases hc
 ·rw [yfn]; exact I.len
end
theorem y5r{X:Cx}{M:Model}{A:Around}{E:Value→Shared→Prop}{pins:List (Addr × Obj)}{s:Shared}{σ:St}{H:Hp}{x:Str}{u:Value}{pos:Pos}{Q:Value→Shared→Prop}(I:Inv X pins σ H s)(hg:Gl X x)(hm:X.mg x=some u)(h:Q u s)
  (hd:(x == ("__debug__" :Str))=false:=by decide):wpAny M A (eval (.Name x pos) X.env) Q E s:=
 Calls.Name_function_global I.ok.kind hg (Calls.loadGlobal_global (by rw [I.ok.glob]; exact I.mod.glob.keeps I.bk) hm h) hd
def y1l(K:yc3)(hc:Value)(j:Nat)(ts:TS)(D:Ends)(σ:St):XK:=fun C _ H2=>yfc K C hc=some true∧∀a,H2 a=none→
 ts {nx:=fun σ' H'=>D.nx (σ'.set j none) H',rt:=D.rt,bk:=fun σ' H'=>D.bk (σ'.set j none) H',ct:=fun σ' H'=>D.ct (σ'.set j none) H'} (σ.set j (some (.ref a))) (upd H2 a (MI a C))
section
variable{X:Cx}{k:Nat}{f:Addr}{fd:FuncData}{ps:List Str}{sp:Sp}{fx y n cn:Str}{e:Expr}{es:List Expr}{t:TA}{b₀:Stmt}{suite:List Stmt}{i j:Nat}{py p pos spos cp hpos tpos:Pos}{hc:Value}{ts:TS}
theorem y4s{pins:List (Addr × Obj)}{σ:St}{H:Hp}{s s':Shared}{D:Ends}{ev:Value}(I:Inv X pins σ H s)(hq:CXr X.prog X.w X.stack H s (y1l X.K hc j ts D σ) ev s')(hcalm:X.calm=true)(hstk:X.stack=X.env :: X.outer)(hfr:X.env.frame=some X.env.locals)
  (hN:X.N.Nodup) (hj:X.N[j]? =some n) (hn:X.env.scope.names.lookup n=some .local) (hcn:∀{M:Model} {A:Around} {Ex:Value→Shared→Prop} {pins:List (Addr × Obj)} {σ:St} {H:Hp} {s:Shared} {Q:Value→Shared→Prop},Inv X pins σ H s→Q hc s→wpAny M A (eval (.Name cn cp) X.env) Q Ex s)
  (hs:∀a,PSs (exCx X a) (b₀ :: suite) ts) :
  wpAny (model X.prog X.w) X.A (noteFrame ev X.env) (fun _ s₂=>wpAny (model X.prog X.w) X.A (setFlight ev none) (fun _ s₃=>wpAny (model X.prog X.w) X.A (handleBy ev X.env [.ExceptHandler (some (.Name cn cp)) (some n) (b₀ :: suite) hpos]) (SP X pins D) X.xe s₃) X.xe s₂) X.xe s':=by
 obtain⟨x,C,H',B,a0,rfl,F⟩:=hq
 obtain⟨hex,hsuite⟩:=F.wish
 have fly0:=F.fly
 rw [hstk] at fly0
 have hframes:X.A.frames=some (X.env :: X.outer):=by rw [I.ok.frames,hstk]
 refine wpAny_looks_onW hframes hfr fly0 fun h₄ held up₄=> ?_
 refine wpAny_landsW held fun h₅ fly₅ up₅=> ?_
 have J₅:Inv X pins σ H' {s' with heap:=h₅}:=I.fly F fly₅.1 (up₄.trans up₅)
 have LT:yf9 (model X.prog X.w) h₅ (typeOf (.ref x)) C:=by
  obtain⟨ob,e1,e2⟩:=fly₅.there
  intro A' Q' E' s'' k q
  unfold typeOf
  have e1':=k x ob e1
  refine wpAny_bind (wpAny_loadPart e1' ?_)
  rw [e2]
  exact wpAny_pure q
 refine wpAny_handleBy_cons (codeAny_handlers_test (hcn J₅ ?_)) (by intro q; cases q)
 refine(PySem.W.exm_one J₅.kIn LT hex).here ?_
 refine codeAny_handlers_suite_as ?_
 refine lands_againW fly₅ fun h₆ fly₆ up₆=> ?_
 have J₆:Inv X pins σ H' {s' with heap:=h₆}:=I.fly F fly₆.1 ((up₄.trans up₅).trans up₆)
 have fly₆':Heap.FlyingW B X.stack x C a0 h₆:=by rw [hstk]; exact fly₆
 obtain⟨J₇,hx⟩:=I.exc F J₆ fly₆'
 refine LQ (v:= .ref x) J₇ hN hj (.inl hn) rfl (fun s₇ J₈=> ?_) (.inr hn)
 refine wpAny_mono (hs x pins s₇ _ _ _ (J₈.toEx x) (hsuite x hx)) (fun fl s₈ q=> ?_) fun _ _ z=>z.elim
 have hd:X.calm=true→X.A.handled=none:=I.ok.hd
 cases fl with
 | next=>
  obtain⟨σ',H2,K1,q⟩:=q
  exact M4 (K1.ofEx hd) hN hj hn fun s₉ K2=>⟨_,H2,K2,q⟩
 | brk=>
  obtain⟨σ',H2,K1,q⟩:=q
  exact M4 (K1.ofEx hd) hN hj hn fun s₉ K2=>⟨_,H2,K2,q⟩
 | cont=>
  obtain⟨σ',H2,K1,q⟩:=q
  exact M4 (K1.ofEx hd) hN hj hn fun s₉ K2=>⟨_,H2,K2,q⟩
 | ret u=>
  obtain⟨v,σ',H2,K1,r,q⟩:=q
  exact M4 (K1.ofEx hd) hN hj hn fun s₉ K2=>⟨v,_,H2,K2,r,q⟩
theorem y1g{pins:List (Addr × Obj)}{σ:St}{H:Hp}{s:Shared}{Q:VK}{us:List Value}{vs:List V}{E:XK}{Eo:Value→Shared→Prop}(F:FnOk X.prog X.w X.K X.mg X.base (CXr X.prog X.w) k f fd ps sp)(hr:Room k X.A)(hb:Lu X.K fd ps [])
  (I:Inv X pins σ H s) (r:yz vs us) (h:sp vs H Q E) (hx:∀e s',CXr X.prog X.w X.stack H s E e s'→Eo e s'):wpAny (model X.prog X.w) X.A (call (.ref f) us) (EP X pins σ Q) Eo s:=by
 have hl:us.length=ps.length:=by rw [←r.length]; exact F.len _ _ _ _ h
 have hb':=hb s us I.kIn (by rw [ye0]; exact hl)
 rw [ye0] at hb'
 refine wpAny_call (codeAny_mono (F.run X.A X.stack s H ⟨us, []⟩ us vs Q E hr I.env0 hb' r h) fun r s' hq=> ?_)
 cases r with
 | error e=>exact hx e s' hq
 | ok fl=>
  cases fl with
  | ret u=>exact I.after hq
  | next=>exact False.elim hq
  | brk=>exact False.elim hq
  | cont=>exact False.elim hq
theorem xr{M:Model}{h:Heap}{a:Addr}{oe:Obj}{C:Value}(e1:h.get? a=some oe)(e2:oe.cls=C):yf9 M h (typeOf (.ref a)) C:=by
 intro A' Q' E' s'' k q
 unfold typeOf
 refine wpAny_bind (wpAny_loadPart (k a oe e1) ?_)
 rw [e2]
 exact wpAny_pure q
theorem y09{K:yc3}{a:Addr}{C c:Value}(e:yd7 K C c=some true):Answers (fun s=>K.In s.heap∧∃oe,s.heap.get? a=some oe∧oe.cls=C) (.ref a) c true:=by
 intro dep tk prog w A R s hs
 obtain⟨h0,g,d,tt,os⟩:=s
 obtain⟨⟨X,oe,e1,e2⟩,hq⟩:=hs
 have LT:=xr (M:=model prog w) e1 e2
 unfold yd7 at e
 unfold Builtin.«isinstance.nested»
 refine wpAny_bind (LT.at ?_)
 by_cases q:(C == c)=true
 ·rw [if_pos q]
  first
   | exact wpAny_bind (wpAny_rule (hq tt))
   | exact wpAny_bind (wpAny_rule (wpAny_pure (hq tt)))
 ·rw [if_neg q] at e
  rw [if_neg q]
  obtain⟨hty,his,hsub⟩:=PySem.W.kit_cls (M:=model prog w) X e
  have LI:yf9 (model prog w) h0 (isInstance (.ref a) c) true:=LT.andThen hsub
  refine wpAny_bind (hty.at ?_)
  rw [if_pos (by decide)]
  k_delta "plainIsInstance"
  refine wpAny_bind (wpAny_bind (his.at ?_))
  simp only [ygj,ydo,if_false]
  refine wpAny_bind (LI.at ?_)
  first
   | exact wpAny_pure (wpAny_pure (hq tt))
   | (simp only [if_true]; first | exact wpAny_pure (wpAny_pure (hq tt)) | exact wpAny_pure (hq tt) | exact wpAny_bind (wpAny_pure (wpAny_pure (hq tt))))
def clsV:V→Option Value
 | .ref b=>some (.ref b)
 | .ty n=>some (.type n)
 | _=>none
theorem Li:bootBuiltins "ValueError" =some (.type "ValueError"):=by decide +kernel
structure ClsAt (K:yc3) (mg:Str→Option Value) (x:Str) (C:Addr):Prop where
 m:mg x=some (.ref C)
 exc:yf8 K C [.type "ValueError", .type "Exception", .type "BaseException", .type "object"] "ValueError.__new__" =true
end
end L2
namespace L2
open PySem PySem.Spec PyProof.Rows
theorem Inv.freezeD{X:Cx}{pins:List (Addr × Obj)}{σ:St}{H:Hp}{s:Shared}{a:Addr}{ob:Obj}{kvs:List (Key × V)}(I:Inv X pins σ H s)(ha:H a=some (.dK kvs))(ho:s.heap.get? a=some ob):Inv X pins σ (upd H a (.frz ob (.dK kvs))) s:=by
 have ne:∀c v,H c=some v→v ≠ .dK kvs→c ≠ a:=fun c v e n z=>by subst z; rw [ha] at e; exact n (Option.some.inj e).symm
 have st:∀b v,H b=some v→yR X.prog X.w (upd H a (.frz ob (.dK kvs))) s.heap b v:=fun b v e=>(I.hok b v e).stay (fun _ _ _ q=>q) (fun c q=>by rw [yi (ne c _ q (by intro z; cases z))]; exact q) fun c xs q=>by rw [yi (ne c _ q (by intro z; cases z))]; exact q
 have hk:HOk X.prog X.w (upd H a (.frz ob (.dK kvs))) s.heap:=fun b v e=>by
  by_cases hb:b=a
  ·subst hb; rw [y6] at e; cases e; exact⟨ho,st _ _ ha⟩
  ·rw [yi hb] at e; exact st b v e
 exact I.un (t':=s.toks) (Un.write (x:=a) (e:=a) (by rw [ha]; trivial) (.inl rfl) (fun _ _ _ q=>q) ⟨ob,ho⟩) hk
def DObj(P:Program)(w:World)(ob:Obj)(ws:List (Key × Value))(ep:Nat):Prop:=∃es,ob.ExactDict∧ob.data= .dict es ep∧KeysOf (yL P w) es∧Pairs (yL P w) es.toList ws∧(ws.map (·.1)).Nodup
def Itd(a:Addr)(ob:Obj)(ks:List Int):It:=
 ⟨fun i H=>(∃u,H a=some (.frz ob u))∧i < ks.length,fun i H x H'=>H'=H∧∃k,ks[i]? =some k∧x= .int k,fun i H=>(∃u,H a=some (.frz ob u))∧ks.length≤i⟩
theorem y2v{P:Program}{w:World}{K:yc3}{tg:Expr}{ob:Obj}{ws:List (Key × Value)}{ep:Nat}{ks:List Int}(a it:Addr)(D:DObj P w ob ws ep)(hk:ws.map (·.1)=ks.map Sum.inl) :
  Turn P w K tg (Itd a ob ks) [it] it (fun i h=>h.IsKeyIter it a i ws.length ep) where
 mem:=by simp
 obj:=fun i h st b hb=>by
  have e:b=it:=by simpa using hb
  subst e
  obtain⟨o,e,c,d⟩:=st
  exact⟨o,e,fun v z=>by rw [d] at z; cases z⟩
 keep:=fun i h h' st k=>st.at fun o e=>k it (by simp) o e
 item:=by
  intro X hP hw hK hc i pins s σ H E I hf st hg
  subst hP hw hK
  obtain⟨⟨u,hu⟩,hi⟩:=hg
  obtain⟨es,d1,d2,d3,d4,d5⟩:=D
  have ho:s.heap.get? a=some ob:=(show yR X.prog X.w H s.heap a (.frz ob u) from I.hok a _ hu).1
  have hm:s.heap.DictAt (yL X.prog X.w) a ws ep:=⟨ob,es,ho,d1,d2,d3,d4,d5⟩
  have hl:ws.length=ks.length:=by have:=congrArg ygg hk; rwa [yc2,yc2] at this
  obtain⟨⟨k,x⟩,hx⟩:∃p,ws[i]? =some p:=⟨ws[i]'(by omega),by simp [hl,hi]⟩
  obtain⟨k0,hk0⟩:∃k0,ks[i]? =some k0:=⟨ks[i],by simp [hi]⟩
  have ek:k=Sum.inl k0:=by
   have e:=congrArg (fun l=>l[i]?) hk
   simp only [yca,hx,hk0] at e
   exact Option.some.inj e
  subst ek
  obtain⟨f0,f1,f2,f3,f4,f5⟩:=hf it (by simp)
  refine wpAny_pyNext_dict_item st hm hx fun key h' hkey st' sb=> ?_
  obtain⟨t,rfl⟩:=Value.isInt_shape (k:=k0) (v:=key) hkey
  have I1:Inv X pins σ H {s with heap:=h'}:=I.turned (t':=s.toks) (fun b o hb e=>(sb.2 b hb).trans e) f0 f1 f3 f4 f5
  obtain⟨o,e,c,d⟩:=id st'
  exact⟨_,rfl,zu (s:={s with heap:=h'}) e c d (by decide) ⟨.int k0,H,I1,⟨t,rfl⟩,⟨rfl,k0,hk0,rfl⟩,st',fun b hb=>(hf b hb).1⟩⟩
 done:=by
  intro X hP hw hK hc i pins s σ H E I hf st hg
  subst hP hw hK
  obtain⟨⟨u,hu⟩,hi⟩:=hg
  obtain⟨es,d1,d2,d3,d4,d5⟩:=D
  have ho:s.heap.get? a=some ob:=(show yR X.prog X.w H s.heap a (.frz ob u) from I.hok a _ hu).1
  have hm:s.heap.DictAt (yL X.prog X.w) a ws ep:=⟨ob,es,ho,d1,d2,d3,d4,d5⟩
  have hl:ws.length=ks.length:=by have:=congrArg ygg hk; rwa [yc2,yc2] at this
  obtain⟨f0,f1,f2,f3,f4,f5⟩:=hf it (by simp)
  exact wpAny_pyNext_dict_end (I.ok.hd hc) st hm (yd6 (by omega)) fun h' eb=>⟨rfl,I.turned (t':=s.toks) (fun b o hb e=>eb b o hb e) f0 f1 f3 f4 f5⟩
 self:=fun _ _ _ _ _ st h=>wpAny_pyIter_keyiter st h
def iDict(tl:TE):TI:=fun σ H R=>tl σ H fun x H1=>∃(a:Addr) (kvs:List (Key × V)) (ks:List Int),x= .ref a∧kvs.map (·.1)=ks.map Sum.inl∧
 ((H1 a=some (.dK kvs)∧∀ob,R (Itd a ob ks) (upd H1 a (.frz ob (.dK kvs))))∨(∃ob,H1 a=some (.frz ob (.dK kvs))∧R (Itd a ob ks) H1))
theorem y15{X:Cx}{tg l:Expr}{tl:TE}(hl:PE X l tl):PI X tg l (iDict tl):=by
 intro pins s σ H R I h
 refine thn (hl pins s σ H _ I h) fun v s1 ⟨x,H1,I1,r1,q1⟩=> ?_
 obtain⟨a,kvs,ks,e,hks,q⟩:=q1
 subst e
 cases r1
 obtain⟨ob,H2,I2,hf,q2⟩:∃ob H2,Inv X pins σ H2 s1∧H2 a=some (.frz ob (.dK kvs))∧R (Itd a ob ks) H2:=by
  rcases q with⟨ha,q⟩ | ⟨ob,ha,q⟩
  ·obtain⟨z,hd,ws,rel,dd⟩:=ZT I1.hok ha
   obtain⟨ob,es,ep,ho,_⟩:=id dd
   exact⟨ob,_,I1.freezeD ha ho,y6,q ob⟩
  ·exact⟨ob,H1,I1,ha,q⟩
 obtain⟨ho,z,hd,ws,rel,dd⟩:=(show yR X.prog X.w H2 s1.heap a (.frz ob (.dK kvs)) from I2.hok a _ hf)
 obtain⟨o',es,ep,ho',hx,hdat,hK,hP,hN⟩:=dd
 rw [ho] at ho'
 cases ho'
 refine wpAny_pyIter_dict (knd:=yL X.prog X.w) (kvs:=ws) (ep:=ep) hd ⟨ob,es,ho,hx,hdat,hK,hP,hN⟩ ?_
 refine⟨s1.heap.objs.size, [s1.heap.objs.size],_,_,H2,rfl,I2.kept (t':=s1.toks) fun b o e=>Heap.get?_push_of_some _ e,y2v (ks:=ks) a _ ⟨es,hx,hdat,hK,hP,hN⟩ (by rw [←rel.keys]; exact hks),⟨_,Heap.get?_push_size _ rfl,rfl,rfl⟩,fun b hb=> ?_,q2⟩
 have e:b=s1.heap.objs.size:=by simpa using hb
 subst e
 exact I2.fpOk (yc6 _) (I2.hok.fresh (yc6 _))
theorem Ws{a:Addr}{ob:Obj}{ks:List Int}{g:TG}{tb:TS}{D:Ends}{σ:St}{H:Hp}(Pv:Nat→St→Hp→Prop)(h0:Pv 0 σ H)(hl:∀i σ H,i≤ks.length→Pv i σ H→∃u,H a=some (.frz ob u))
  (hs:∀i k σ H,ks[i]? =some k→Pv i σ H→g (.int k) σ H fun σ2 H2=>tb {D with nx:=Pv (i + 1),ct:=Pv (i + 1),bk:=D.nx} σ2 H2) (hd:∀σ H,Pv ks.length σ H→D.nx σ H) :
  ∃W:Nat→Nat→St→Hp→Prop,(∃m,W 0 m σ H)∧∀i m σ H,W i m σ H→
   ((Itd a ob ks).stop i H∧D.nx σ H)∨((Itd a ob ks).go i H∧∃N:St→Hp→Prop,(∀σ' H',N σ' H'→∃m',m' < m∧W (i + 1) m' σ' H')∧∀x H',(Itd a ob ks).yld i H x H'→g x σ H' fun σ2 H2=>tb {D with nx:=N,ct:=N,bk:=D.nx} σ2 H2):=by
 refine⟨fun i m σ H=>m=ks.length - i∧i≤ks.length∧Pv i σ H,⟨ks.length,by simp,yd9 _,h0⟩, ?_⟩
 rintro i m σ H ⟨rfl,hi,p⟩
 have q:=hl i σ H hi p
 by_cases hlt:i < ks.length
 ·refine .inr ⟨⟨q,hlt⟩,Pv (i + 1),fun σ' H' p'=>⟨ks.length - (i + 1),by omega,rfl,hlt,p'⟩,fun x H' y=> ?_⟩
  obtain⟨e,k,hk,ex⟩:=y
  subst e ex
  exact hs i k σ _ hk p
 ·have e:i=ks.length:=by omega
  subst e
  exact .inl ⟨⟨q,yc6 _⟩,hd σ H p⟩
def Ite(K:yc3)(a:Addr):It:=
 ⟨fun i H=>∃xs x,SqL K H a xs∧xs[i]? =some x,fun i H x H'=>∃p v,H p=none∧(∀xs,SqL K H a xs→xs[i]? =some v)∧x= .ref p∧H'=upd H p (.tup [.int i,v]),fun i H=>∃xs,SqL K H a xs∧xs.length≤i⟩
theorem y4g{P:Program}{w:World}{K:yc3}{elts:List Expr}{x1:Nat}{pos:Pos}(a e it:Addr)(hne:e ≠ it):Turn P w K (.Tuple elts x1 pos) (Ite K a) [e,it] e (fun i h=>(∃old,IsEnum h e it i old)∧h.IsListIter it a i) where
 mem:=by simp
 obj:=fun i h st b hb=>by
  obtain⟨⟨old,he⟩,o,ho,c,d⟩:=st
  rcases ycg.mp hb with z | z
  ·subst z; exact⟨_,he,fun v z=>by cases z⟩
  ·have z':b=it:=by simpa using z
   subst z'; exact⟨o,ho,fun v z=>by rw [d] at z; cases z⟩
 keep:=fun i h h' st k=>by
  obtain⟨⟨old,he⟩,hit⟩:=st
  exact⟨⟨old,k e (by simp) _ he⟩,hit.at fun o q=>k it (by simp) o q⟩
 item:=by
  intro X hP hw hK hc i pins s σ H E I hf st hg
  subst hP hw hK
  obtain⟨xs,x,hq,hx⟩:=hg
  obtain⟨its,rv,p,hz⟩:=I.list hq
  obtain⟨u,hu,ru⟩:=rv.get hx
  obtain⟨⟨old,he⟩,hit⟩:=st
  obtain⟨e0,e1,e2,e3,e4,e5⟩:=hf e (by simp)
  obtain⟨f0,f1,f2,f3,f4,f5⟩:=hf it (by simp)
  refine wpAny_pyNext_enum_item he hit p.isList (x:=u) (by simpa using hu) hne fun h' ho hit' hT hsz hk=> ?_
  refine⟨_,rfl,wpAny_letOwnedTupleGo_enum ho fun h2 he2 sb=> ?_⟩
  have sb':Heap.SameBut e h' h2:=sb
  have he_lt:e < s.heap.objs.size:=Heap.lt_size he
  have hT2:h2.get? s.heap.objs.size=some {cls:= .type "tuple",data:= .seq #[.int i s.toks,u]}:=(sb'.2 _ (ydf he_lt)).trans hT
  have kp:∀b o,b ≠ e→b ≠ it→s.heap.get? b=some o→h2.get? b=some o:=fun b o h1 h3 q=>(sb'.2 b h1).trans (hk b o h1 h3 q)
  have hTn:H s.heap.objs.size=none:=I.hok.fresh (yc6 _)
  have hl2:h2.IsListIter it a (i + 1):=hit'.at fun o q=>(sb'.2 it (Ne.symm hne)).trans q
  have hk2:HOk X.prog X.w (upd H s.heap.objs.size (.tup [.int i,x])) h2:=fun b v q=>by
   by_cases hb:b=s.heap.objs.size
   ·subst hb
    rw [y6] at q
    cases q
    exact⟨by show 2≤sizeLine; decide, [.int i s.toks,u], .cons ⟨s.toks,rfl⟩ (.cons ru .nil),⟨_,hT2,rfl,_,rfl⟩⟩
   ·rw [yi hb] at q
    refine(I.hok b v q).stay (fun c o hc q'=>kp c o ?_ ?_ q') (fun c q'=>by rw [yi (ym q' hTn)]; exact q') fun c ys q'=>by rw [yi (ym q' hTn)]; exact q'
    ·rcases hc with z | z
     ·rw [z]; exact ym q e0
     ·exact ym z e0
    ·rcases hc with z | z
     ·rw [z]; exact ym q f0
     ·exact ym z f0
  have I2:Inv X pins σ (upd H s.heap.objs.size (.tup [.int i,x])) {s with heap:=h2,toks:=s.toks + 1}:=by
   refine I.step (g':=s.gens) (d':=s.drawn) (t':=s.toks + 1) (ch:= [e,it]) (fun b hb=> ?_) (fun b o _ _ hc q _=>kp b o (fun z=>hc (by simp [z])) (fun z=>hc (by simp [z])) q) (fun b o _ _ hc q _=>⟨o.slots,kp b o (fun z=>hc (by simp [z])) (fun z=>hc (by simp [z])) q⟩)
    (fun b o _ q n=>by rw [yi (ycj (Heap.lt_size q))]; exact n) (fun b o hc q=>⟨o,kp b o (fun z=>hc (by simp [z])) (fun z=>hc (by simp [z])) q⟩) (fun b ys q=>by rw [yi (ym q hTn)]; exact q) (fun b o v q=>by rw [yi (ym q hTn)]; exact q)
    (fun b ps q=>⟨#[],by rw [yi (ym q hTn),q]; simp⟩) (fun m hm=> ?_) hk2 I.bare
   ·rcases ycg.mp hb with z | z
    ·subst z; exact⟨e3,e1,e4,e5⟩
    ·have z':b=it:=by simpa using z
     subst z'; exact⟨f3,f1,f4,f5⟩
   ·obtain⟨o,es,ep,q,r⟩:=hm
    exact⟨o,es,ep,kp _ o (Ne.symm e1) (Ne.symm f1) q,r⟩
  refine⟨.ref s.heap.objs.size,_,I2,rfl,⟨_,x,hTn,fun ys hy=>by rw [I.list_inj hy hq]; exact hx,rfl,rfl⟩,⟨⟨u,by simpa using he2⟩,hl2⟩,fun b hb=> ?_⟩
  rw [yi (fun z=> ?_)]
  ·exact(hf b hb).1
  ·rcases ycg.mp hb with y | y
   ·rw [←y,z] at he_lt; exact yd3 _ he_lt
   ·have y':b=it:=by simpa using y
    obtain⟨o,q,_⟩:=hit
    have:=Heap.lt_size q
    rw [←y',z] at this; exact yd3 _ this
 done:=by
  intro X hP hw hK hc i pins s σ H E I hf st hg
  subst hP hw hK
  obtain⟨xs,hq,hx⟩:=hg
  obtain⟨its,rv,p,hz⟩:=I.list hq
  obtain⟨⟨old,he⟩,hit⟩:=st
  obtain⟨f0,f1,f2,f3,f4,f5⟩:=hf it (by simp)
  have hl:=rv.length
  exact wpAny_pyNext_enum_end (I.ok.hd hc) he hit p.isList (by simp; omega) fun h' eb=>⟨rfl,I.turned (t':=s.toks) (fun b o hb e=>eb b o hb e) f0 f1 f3 f4 f5⟩
 self:=fun _ _ _ _ _ st h=>by
  obtain⟨⟨old,he⟩,_⟩:=st
  exact wpAny_pyIter_enum he h
theorem qJ:bootBuiltins "enumerate" =some (.type "enumerate"):=by decide +kernel
def iEnum(K:yc3)(ta:TA):TI:=fun σ H R=>ta σ H fun vs H1=>∃a,vs= [.ref a]∧(∃xs,SqL K H1 a xs)∧R (Ite K a) H1
theorem y0j{X:Cx}{elts:List Expr}{x1:Nat}{tp:Pos}{a:Expr}{ta:TA}{p pos:Pos}(hg:Gl X "enumerate")(hm:X.mg "enumerate" =none)(ha:PA X [a] ta)(hs:starEach [a] X.env= [(false,eval a X.env)]:=by rfl):PI X (.Tuple elts x1 tp) (.Call (.Name "enumerate" p) [a] [] pos) (iEnum X.K ta):=by
 intro pins s σ H R I h
 refine Call_ (JP I hg hm qJ (PyProof.Rows.callWith_type1 (thn (ha pos pins s σ H _ I h) fun us s1 ⟨vs,H1,I1,r1,q1⟩=> ?_) hs rfl))
 obtain⟨l,e,⟨xs,hq⟩,q⟩:=q1
 subst e
 cases r1 with
 | cons r rr=>
  cases rr
  cases r
  obtain⟨its,rv,pl,hz⟩:=I1.list hq
  refine call_enumerate_list pl.isList fun h' he hit hz' hk=>wpAny_pyIter_enum he ?_
  have hn:s1.heap.objs.size≤s1.heap.objs.size + 1:=yez _
  refine⟨s1.heap.objs.size + 1, [s1.heap.objs.size + 1,s1.heap.objs.size],_,_,H1,rfl,I1.kept (t':=s1.toks) hk,y4g l _ _ (ydf (yeh _)),⟨⟨_,he⟩,hit⟩,fun b hb=> ?_,q⟩
  rcases ycg.mp hb with z | z
  ·subst z; exact I1.fpOk hn (I1.hok.fresh hn)
  ·have z':b=s1.heap.objs.size:=by simpa using z
   subst z'; exact I1.fpOk (yc6 _) (I1.hok.fresh (yc6 _))
theorem Wo{K:yc3}{a:Addr}{xs:List V}{g:TG}{tb:TS}{D:Ends}{σ:St}{H:Hp}(Pv:Nat→St→Hp→Prop)(h0:Pv 0 σ H)(hl:∀i σ H,i≤xs.length→Pv i σ H→SqL K H a xs)
  (hs:∀i x σ H p,xs[i]? =some x→Pv i σ H→H p=none→g (.ref p) σ (upd H p (.tup [.int i,x])) fun σ2 H2=>tb {D with nx:=Pv (i + 1),ct:=Pv (i + 1),bk:=D.nx} σ2 H2) (hd:∀σ H,Pv xs.length σ H→D.nx σ H) :
  ∃W:Nat→Nat→St→Hp→Prop,(∃m,W 0 m σ H)∧∀i m σ H,W i m σ H→
   ((Ite K a).stop i H∧D.nx σ H)∨((Ite K a).go i H∧∃N:St→Hp→Prop,(∀σ' H',N σ' H'→∃m',m' < m∧W (i + 1) m' σ' H')∧∀x H',(Ite K a).yld i H x H'→g x σ H' fun σ2 H2=>tb {D with nx:=N,ct:=N,bk:=D.nx} σ2 H2):=by
 refine⟨fun i m σ H=>m=xs.length - i∧i≤xs.length∧Pv i σ H,⟨xs.length,by simp,yd9 _,h0⟩, ?_⟩
 rintro i m σ H ⟨rfl,hi,p⟩
 have q:=hl i σ H hi p
 by_cases hlt:i < xs.length
 ·refine .inr ⟨⟨xs,xs[i],q,by simp [hlt]⟩,Pv (i + 1),fun σ' H' p'=>⟨xs.length - (i + 1),by omega,rfl,hlt,p'⟩,fun x H' y=> ?_⟩
  obtain⟨b,v,hn,hv,ex,e⟩:=y
  subst e ex
  exact hs i v σ _ b (hv xs q) p hn
 ·have e:i=xs.length:=by omega
  subst e
  exact .inl ⟨⟨xs,q,yc6 _⟩,hd σ H p⟩
def tLRng(ta:TA):TE:=fun σ H Q=>ta σ H fun vs H1=>∃j:Int,vs= [.int j]∧0≤j∧j≤1000∧∀p,H1 p=none→Q (.ref p) (upd H1 p (.lst ((ycd j.toNat).map fun k:Nat=>V.int (k:Int))))
theorem QV:∀{n:Nat} {its:List Value},its.length=n→(∀(j:Nat) (v:Value),its[j]? =some v→∃t,v= .int (0 + (j:Int) * 1) t)→yz ((ycd n).map fun k:Nat=>V.int (k:Int)) its
 | 0,its,hl,_=>by
  rw [List.length_eq_zero_iff.mp hl]; exact .nil
 | n + 1,its,hl,h=>by
  have hne:its ≠ []:=by intro z; rw [z] at hl; cases hl
  have hd:=List.dropLast_concat_getLast hne
  rw [yfq,yci,←hd]
  refine yz.append (QV (by rw [List.length_dropLast,hl]; rfl) fun j v hj=> ?_) (.cons ?_ .nil)
  ·refine h j v ?_
   rw [←hd,ycu (yc5.mp hj).1]
   exact hj
  ·have:its[n]? =some (its.getLast hne):=by rw [List.getLast_eq_getElem,yc4 (by omega)]; simp [hl]
   obtain⟨t,e⟩:=h n _ this
   refine⟨t, ?_⟩
   rw [e]; simp
theorem zX{X:Cx}{e:Expr}{te:TA}{p1 p2 pos1 pos2:Pos}(hc:X.calm=true)(hg1:Gl X "list")(hm1:X.mg "list" =none)(hg2:Gl X "range")(hm2:X.mg "range" =none)(he:PA X [e] te)
  (hs1:starEach [.Call (.Name "range" p2) [e] [] pos2] X.env= [(false,eval (.Call (.Name "range" p2) [e] [] pos2) X.env)]:=by rfl) (hs2:starEach [e] X.env= [(false,eval e X.env)]:=by rfl) :
  PE X (.Call (.Name "list" p1) [.Call (.Name "range" p2) [e] [] pos2] [] pos1) (tLRng te):=by
 intro pins s σ H Q I h
 refine Call_ (JP I hg1 hm1 boot_list (PyProof.Rows.callWith_type1 ?_ hs1 rfl))
 rw [hs1]
 refine Calls.spliced_cons (Call_ (JP I hg2 hm2 boot_range (PyProof.Rows.callWith_type1 (thn (he pos2 pins s σ H _ I h) fun us s1 ⟨vs,H1,I1,r1,q1⟩=> ?_) hs2 rfl)))
 obtain⟨j,ev,j0,j1,q⟩:=q1
 subst ev
 cases r1 with
 | cons r rr=>
  cases rr
  obtain⟨t,rfl⟩:=r
  refine call_range_1 (Calls.spliced_nil ?_)
  have I2:Inv X pins σ H1 {s1 with heap:=s1.heap.push {cls:= .type "range",data:= .fields #[.int 0 s1.toks, .int j t, .int 1 (s1.toks + 1)]},toks:=s1.toks + 1 + 1}:=I1.kept fun b o e=>Heap.get?_push_of_some _ e
  have hsz:Builtin.Range.rangeSize 0 j 1=(j.toNat:Nat):=by rw [rangeSize_one]; split <;> omega
  refine call_list_range (I.ok.hd hc) (IsRange.new ..) (small_one (by omega) (by omega) (by omega) (by omega)) hsz (by omega) fun h' tk acc' c' hk hS hacc=> ?_
  have hD:(s1.heap.push {cls:= .type "range",data:= .fields #[.int 0 s1.toks, .int j t, .int 1 (s1.toks + 1)]}).objs.size=s1.heap.objs.size + 1:=size_push' ..
  have rv:yz ((ycd j.toNat).map fun k:Nat=>V.int (k:Int)) acc'.toList:=QV (by rw [ycn]; exact hacc.1) fun i v hi=>hacc.2 i v (by rw [←ycy]; exact hi)
  refine⟨.ref _,_,I2.laid (a:=_) (o:= .lst ((ycd j.toNat).map fun k:Nat=>V.int (k:Int))) (t':=tk) hk (yc6 _) ⟨?_,acc'.toList,c',rv, ?_⟩,rfl,q _ (I2.hok.fresh (yc6 _))⟩
  ·rw [yc2,yd2,sizeLine_eq]; omega
  ·rw [hS]
def y98:V→List V→Hp→VK→Prop:=fun x vs H Q=>∃l xs y i,x= .ref l∧vs= [.int i,y]∧H l=some (.lst xs)∧0≤i∧i≤xs.length∧xs.length < 1000∧Q .non (upd H l (.lst (xs.take i.toNat ++ y :: xs.drop i.toNat)))
end L2
namespace STab
open PySem
def Up(xs:Array Nat):Prop:=∀(i k v u:Nat),xs[i]? =some v→xs[k]? =some u→i < k→v < u
theorem Wv{xs:Array Nat}(h:Up xs){i k v:Nat}(hi:xs[i]? =some v)(hk:xs[k]? =some v):i=k:=by
 rcases yf6 i k with c | c | c
 ·exact absurd (h i k v v hi hk c) (yd3 _)
 ·exact c
 ·exact absurd (h k i v v hk hi c) (yd3 _)
theorem VL{xs:Array Nat}{i:Nat}(h:i < xs.size):xs[i]? =some (xs.getD i 0):=by
 rw [ydn,ydj h]; rfl
theorem Qr{xs:Array Nat}{j:Nat}(hr:Up xs):∀(fuel lo hi:Nat),lo≤hi→hi≤xs.size→hi - lo≤fuel→(∀i v,xs[i]? =some v→i < lo→v < j)→(∀i v,xs[i]? =some v→hi≤i→j≤v)→
  SetTable.below.go xs j fuel lo hi≤xs.size∧(∀i v,xs[i]? =some v→i < SetTable.below.go xs j fuel lo hi→v < j)∧(∀i v,xs[i]? =some v→SetTable.below.go xs j fuel lo hi≤i→j≤v)
 | 0,lo,hi,h1,h2,h3,a,b=>by
  have e:lo=hi:=by omega
  subst e
  exact⟨h2,a,b⟩
 | fuel + 1,lo,hi,h1,h2,h3,a,b=>by
  unfold SetTable.below.go
  by_cases c:lo < hi
  ·rw [if_pos c]
   have hm:(lo + hi) / 2 < xs.size:=by omega
   obtain⟨v,hv⟩:∃v,xs[(lo + hi) / 2]? =some v:=⟨_,VL hm⟩
   have eg:xs.getD ((lo + hi) / 2) j=v:=by rw [ydn,hv]; rfl
   dsimp only
   rw [eg]
   by_cases d:v < j
   ·rw [if_pos d]
    refine Qr hr fuel _ _ (by omega) h2 (by omega) (fun i u hi' hl=> ?_) b
    rcases ydq i ((lo + hi) / 2) with q | q
    ·have:=hr i _ u v hi' hv q; omega
    ·have:i=(lo + hi) / 2:=by omega
     subst this
     rw [hv] at hi'; cases hi'; exact d
   ·rw [if_neg d]
    refine Qr hr fuel _ _ (by omega) (by omega) (by omega) a (fun i u hi' hl=> ?_)
    rcases ydq ((lo + hi) / 2) i with q | q
    ·have:=hr _ i v u hv hi' q; omega
    ·have:i=(lo + hi) / 2:=by omega
     subst this
     rw [hv] at hi'; cases hi'; omega
  ·rw [if_neg c]
   have e:lo=hi:=by omega
   subst e
   exact⟨h2,a,b⟩
theorem jU{xs:Array Nat}{j:Nat}(hr:Up xs):SetTable.below xs j≤xs.size∧(∀i v,xs[i]? =some v→i < SetTable.below xs j→v < j)∧(∀i v,xs[i]? =some v→SetTable.below xs j≤i→j≤v):=
 Qr hr xs.size 0 xs.size (yd9 _) (yc6 _) (by omega) (fun i v _ h=>absurd h (yee _)) (fun i v h q=>by
  have:=(yg2.mp h).1
  omega)
def In(xs:Array Nat)(j:Nat):Prop:=∃i:Nat,xs[i]? =some j
theorem y7o{xs:Array Nat}{j i:Nat}(hr:Up xs)(h:xs[i]? =some j):SetTable.below xs j=i:=by
 obtain⟨h1,h2,h3⟩:=jU (j:=j) hr
 rcases yf6 (SetTable.below xs j) i with c | c | c
 ·have hs:SetTable.below xs j < xs.size:=ye1 c (yg2.mp h).1
  have e:=VL hs
  have q1:=h3 _ _ e (yc6 _)
  have q2:=hr _ _ _ _ e h c
  omega
 ·exact c
 ·exact absurd (h2 i j h c) (yd3 _)
theorem Wd{t:SetTable}{j:Nat}(hd:t.dummies=#[])(h:¬In t.place j):t.slot j= .empty:=by
 unfold SetTable.slot
 have e:(t.place[SetTable.below t.place j]? == some j)=false:=by
  rw [ydh]
  intro q
  exact h ⟨_,by simpa using q⟩
 have e2:SetTable.has t.dummies j=false:=by rw [hd]; unfold SetTable.has; simp
 dsimp only
 rw [e,e2]; rfl
theorem qE{t:SetTable}{j i:Nat}(hr:Up t.place)(h:t.place[i]? =some j):t.slot j= .live i:=by
 unfold SetTable.slot
 dsimp only
 rw [y7o hr h,h]
 simp
def lp(mask:Nat):Nat→Nat × Nat→Nat × Nat
 | 0,x=>x
 | m + 1,x=>lp mask m (SetTable.leap mask x.1 x.2)
theorem y4u(mask:Nat):∀(a b:Nat) (x:Nat × Nat),lp mask (a + b) x=lp mask b (lp mask a x)
 | 0,b,x=>by rw [yfi]; rfl
 | a + 1,b,x=>by rw [yh2]; exact y4u mask a b _
def fI(M:Nat)(x:Nat):Nat:=(x * 5 + 1) % M
def orb(M:Nat):Nat→Nat→Nat
 | 0,x=>x
 | m + 1,x=>orb M m (fI M x)
theorem ZN(M:Nat):∀(a b x:Nat),orb M (a + b) x=orb M b (orb M a x)
 | 0,b,x=>by rw [yfi]; rfl
 | a + 1,b,x=>by rw [yh2]; exact ZN M a b _
theorem y18{mask:Nat}:∀(m i:Nat),lp mask m (i,0)=(orb (mask + 1) m i,0)
 | 0,i=>rfl
 | m + 1,i=>by
  show lp mask m (SetTable.leap mask i 0)=_
  have e:SetTable.leap mask i 0=(fI (mask + 1) i,0):=by
   unfold SetTable.leap fI
   simp
  rw [e,y18 m]; rfl
theorem y0r{mask:Nat}:∀(m:Nat) (x:Nat × Nat),(lp mask m x).2=x.2 / 32 ^ m
 | 0,x=>by simp [lp]
 | m + 1,x=>by
  show(lp mask m (SetTable.leap mask x.1 x.2)).2=_
  rw [y0r m]
  show x.2 / 32 / 32 ^ m=_
  rw [Nat.div_div_eq_div_mul,Nat.pow_succ,Nat.mul_comm]
theorem y8c{mask:Nat}:∀(m:Nat) (x:Nat × Nat),x.1≤mask→(lp mask m x).1≤mask
 | 0,x,h=>h
 | m + 1,x,h=>y8c m _ (ydr (yf1 _ (yei _)))
def M3(mask:Nat):Prop:=mask=7∨mask=31∨mask=127
def orbL(M:Nat):Nat→Nat→List Nat
 | 0,_=> []
 | m + 1,x=>x :: orbL M m (fI M x)
theorem zM{M:Nat}:∀{m x y:Nat},y ∈ orbL M m x→∃k,k < m∧orb M k x=y
 | 0,x,y,h=>by cases h
 | m + 1,x,y,h=>by
  rcases ycg.mp h with e | e
  ·exact⟨0,yei _,e.symm⟩
  ·obtain⟨k,h1,h2⟩:=zM e
   exact⟨k + 1,Nat.succ_lt_succ h1,h2⟩
theorem y9t{mask:Nat}(h:M3 mask):orb (mask + 1) (mask + 1) 0=0∧∀y,y≤mask→∃k,k < mask + 1∧orb (mask + 1) k 0=y:=by
 have key:∀M:Nat,((ycd M).all fun y=>(orbL M M 0).contains y)=true→∀y,y < M→∃k,k < M∧orb M k 0=y:=fun M e y hy=>by
  have:=ye9.mp e y (ycs.mpr hy)
  exact zM (by simpa using this)
 rcases h with rfl | rfl | rfl
 ·exact⟨by decide +kernel,fun y hy=>key 8 (by decide +kernel) y (by omega)⟩
 ·exact⟨by decide +kernel,fun y hy=>key 32 (by decide +kernel) y (by omega)⟩
 ·exact⟨by decide +kernel,fun y hy=>key 128 (by decide +kernel) y (by omega)⟩
theorem y59{mask:Nat}(h:M3 mask){x y:Nat}(hx:x≤mask)(hy:y≤mask):∃k,k≤mask∧orb (mask + 1) k x=y:=by
 obtain⟨per,all⟩:=y9t h
 obtain⟨a,ha,ea⟩:=all x hx
 obtain⟨b,hb,eb⟩:=all y hy
 by_cases c:a≤b
 ·refine⟨b - a,by omega, ?_⟩
  rw [←ea,←ZN,show a + (b - a)=b by omega,eb]
 ·refine⟨mask + 1 + b - a,by omega, ?_⟩
  rw [←ea,←ZN,show a + (mask + 1 + b - a)=(mask + 1) + b by omega,ZN,per,eb]
theorem MH{mask:Nat}(h:M3 mask){x:Nat × Nat}(hx:x.1≤mask)(hp:x.2 < 2 ^ 64){y:Nat}(hy:y≤mask):∃m,m < mask + 14∧(lp mask m x).1=y:=by
 have e0:(lp mask 13 x).2=0:=by
  rw [y0r]
  exact Nat.div_eq_of_lt (ye1 hp (by decide))
 obtain⟨k,hk,e⟩:=y59 h (y8c 13 x hx) hy
 refine⟨13 + k,by omega, ?_⟩
 rw [y4u]
 have e1:lp mask 13 x=((lp mask 13 x).1,0):=by rw [←e0]
 rw [e1,y18]; exact e
def adv(t:SetTable):Nat→SetTable.Probe→SetTable.Probe
 | 0,p=>p
 | k + 1,p=>adv t k (t.advance p)
theorem Mk(t:SetTable):∀(a b:Nat) (p:SetTable.Probe),adv t (a + b) p=adv t b (adv t a p)
 | 0,b,p=>by rw [yfi]; rfl
 | a + 1,b,p=>by rw [yh2]; exact Mk t a b _
structure At (t:SetTable) (p:SetTable.Probe) (x:Nat × Nat):Prop where
 j:p.j=x.1
 i:p.i=x.1
 more:p.more=SetTable.runEnd t.mask x.1 - x.1
 pert:p.perturb=x.2
 dm:p.dummy=none
theorem Vp{mask i:Nat}(h:i≤mask):SetTable.runEnd mask i≤mask∧i≤SetTable.runEnd mask i∧SetTable.runEnd mask i≤i + 9:=by
 unfold SetTable.runEnd
 split <;> omega
theorem qr{t:SetTable}:∀(n:Nat) (p:SetTable.Probe),p.more=n→p.dummy=none→At t (adv t (n + 1) p) (SetTable.leap t.mask p.i p.perturb)
 | 0,p,h,hd=>by
  have e:t.advance p={p with j:=(SetTable.leap t.mask p.i p.perturb).1,more:=SetTable.runEnd t.mask (SetTable.leap t.mask p.i p.perturb).1 - (SetTable.leap t.mask p.i p.perturb).1,i:=(SetTable.leap t.mask p.i p.perturb).1,perturb:=(SetTable.leap t.mask p.i p.perturb).2}:=by
   unfold SetTable.advance
   rw [if_neg (by omega)]
  show At t (t.advance p) _
  rw [e]
  exact⟨rfl,rfl,rfl,rfl,hd⟩
 | n + 1,p,h,hd=>by
  have e:t.advance p={p with j:=p.j + 1,more:=p.more - 1}:=by
   unfold SetTable.advance
   rw [if_pos (by omega)]
  show At t (adv t (n + 1) (t.advance p)) _
  rw [e]
  exact qr n {p with j:=p.j + 1,more:=p.more - 1} (by show p.more - 1=n; omega) hd
theorem Zr{t:SetTable}:∀(m:Nat) (p:SetTable.Probe) (x:Nat × Nat),At t p x→x.1≤t.mask→∃k,k≤10 * m∧At t (adv t k p) (lp t.mask m x)
 | 0,p,x,h,_=>⟨0,yc6 _,h⟩
 | m + 1,p,x,h,hx=>by
  have r:=Vp hx
  have q:=qr (t:=t) p.more p rfl h.dm
  rw [h.i,h.pert] at q
  obtain⟨k,hk,a⟩:=Zr m _ _ q (ydr (yf1 _ (yei _)))
  refine⟨p.more + 1 + k, ?_, ?_⟩
  ·have:=h.more; omega
  ·rw [Mk]; exact a
theorem y4p{t:SetTable}{p:SetTable.Probe}(h:p.j + p.more≤t.mask):(t.advance p).j + (t.advance p).more≤t.mask:=by
 unfold SetTable.advance
 split
 ·show p.j + 1 + (p.more - 1)≤t.mask
  omega
 ·have l:(SetTable.leap t.mask p.i p.perturb).1≤t.mask:=ydr (yf1 _ (yei _))
  have r:=Vp l
  show(SetTable.leap t.mask p.i p.perturb).1 + (SetTable.runEnd t.mask (SetTable.leap t.mask p.i p.perturb).1 - (SetTable.leap t.mask p.i p.perturb).1)≤t.mask
  omega
theorem xO{t:SetTable}{p:SetTable.Probe}(h:p.dummy=none):(t.advance p).dummy=none:=by
 unfold SetTable.advance
 split <;> exact h
theorem WT{t:SetTable}{h:Int}(hd:t.dummies=#[])(hr:Up t.place):∀(fuel:Nat) (p:SetTable.Probe),p.dummy=none→p.j + p.more≤t.mask→(∃k,k < fuel∧¬In t.place (adv t k p).j)→
  ∃j,SetTable.probe.go t (fun _=>h + 1) h fuel p=some (.empty j none)∧j≤t.mask∧¬In t.place j
 | 0,p,_,_,⟨k,hk,_⟩=>absurd hk (yee _)
 | fuel + 1,p,hp,hj,⟨k,hk,hn⟩=>by
  unfold SetTable.probe.go
  by_cases c:In t.place p.j
  ·obtain⟨i,hi⟩:=c
   rw [qE hr hi]
   have e:((h + 1:Int) == h)=false:=by
    rw [beq_eq_false_iff_ne]; omega
   dsimp only
   rw [e]
   refine WT hd hr fuel _ (xO hp) (y4p hj) ?_
   cases k with
   | zero=>exact absurd ⟨i,hi⟩ hn
   | succ k=>exact⟨k,ygc hk,hn⟩
  ·rw [Wd hd c]
   exact⟨p.j,by rw [hp],by omega,c⟩
theorem gap{xs:Array Nat}{mask:Nat}(hr:Up xs)(hs:xs.size≤mask):∃y,y≤mask∧¬In xs y:=by
 apply Classical.byContradiction
 intro hcon
 have all:∀y,y≤mask→In xs y:=fun y hy=>Classical.byContradiction fun q=>hcon ⟨y,hy,q⟩
 have l:=Gra.length_le_of_subset (l:=ycd (mask + 1)) (m:=xs.toList) List.nodup_range fun y hy=>by
  obtain⟨i,hi⟩:=all y (by have:=ycs.mp hy; omega)
  exact yce (i:=i) (by rw [ycy]; exact hi)
 rw [yd2,ycn] at l
 omega
theorem ZO(h:Int):SetTable.bits h < 2 ^ 64:=by
 unfold SetTable.bits
 omega
theorem y3g{t:SetTable}{h:Int}(hd:t.dummies=#[])(hr:Up t.place)(hm:M3 t.mask)(hs:t.place.size≤t.mask):∃j,t.freeSlot h=some (j,false)∧j≤t.mask∧¬In t.place j:=by
 obtain⟨y,hy,hn⟩:=gap hr hs
 have hi:SetTable.bits h % (t.mask + 1)≤t.mask:=ydr (yf1 _ (yei _))
 have a0:At t (t.probeStart h) (SetTable.bits h % (t.mask + 1),SetTable.bits h):=⟨rfl,rfl,rfl,rfl,rfl⟩
 obtain⟨m,hm1,e⟩:=MH hm (x:=(SetTable.bits h % (t.mask + 1),SetTable.bits h)) hi (ZO h) hy
 obtain⟨k,hk,a⟩:=Zr m _ _ a0 hi
 have r:=Vp hi
 obtain⟨j,e1,e2,e3⟩:=WT (h:=h) hd hr (10 * SetTable.turns t.mask) (t.probeStart h) rfl (by show SetTable.bits h % (t.mask + 1) + (SetTable.runEnd t.mask (SetTable.bits h % (t.mask + 1)) - SetTable.bits h % (t.mask + 1))≤t.mask; omega)
  ⟨k,by unfold SetTable.turns; omega,by rw [a.j,e]; exact hn⟩
 refine⟨j, ?_,e2,e3⟩
 unfold SetTable.freeSlot SetTable.probe
 rw [e1]; rfl
end STab
namespace STab
open PySem
theorem V1{α:Type}(xs:Array α)(p:Nat)(x:α):(SetTable.insertAt xs p x).toList=xs.toList.take p ++ x :: xs.toList.drop p:=by
 unfold SetTable.insertAt
 simp [Array.toList_extract,List.extract_eq_drop_take,yen]
theorem YN{α:Type}{xs:Array α}{p:Nat}(x:α)(hp:p≤xs.size)(i:Nat):(SetTable.insertAt xs p x)[i]? =if i < p then xs[i]? else if i=p then some x else xs[i - 1]?:=by
 have hl:(xs.toList.take p).length=p:=by rw [yd4,ycn]; omega
 rw [←ycy,V1]
 by_cases c:i < p
 ·rw [if_pos c,ycu (by omega),List.getElem?_take,if_pos c,ycy]
 ·rw [if_neg c,ydz (by omega),hl]
  by_cases d:i=p
  ·rw [if_pos d,d,ygu]; rfl
  ·rw [if_neg d]
   obtain⟨k,hk⟩:∃k,i - p=k + 1:=⟨i - p - 1,by omega⟩
   rw [hk,yew,List.getElem?_drop,show p + k=i - 1 by omega,ycy]
theorem Lh{α:Type}{xs:Array α}{p:Nat}(x:α)(hp:p≤xs.size):(SetTable.insertAt xs p x).size=xs.size + 1:=by
 rw [←ycn,V1,ycr,yct,yd4,ydt,ycn]; omega
structure Tab (b:Bool) (t:SetTable) (n:Nat):Prop where
 dm:t.dummies=#[]
 up:Up t.place
 le:∀j,In t.place j→j≤t.mask
 sz:t.place.size=n
 m3:M3 t.mask
 room:n≤t.mask
 plain:t.plain=true
 led:t.led=b
theorem Tab.fits{b:Bool}{t:SetTable}{n:Nat}(T:Tab b t n):t.fits n=true:=by
 unfold SetTable.fits SetTable.fill
 rw [T.dm,T.sz]
 have:=T.room
 simp [this]
theorem Tab.put{b:Bool}{t:SetTable}{n j:Nat}(T:Tab b t n)(hj:j≤t.mask)(hn:¬In t.place j)(hr:n + 1≤t.mask):Tab b (t.put j).1 (n + 1)∧(t.put j).1.mask=t.mask∧(t.put j).2≤n:=by
 have hb:=jU (j:=j) T.up
 have hd:SetTable.has t.dummies j=false:=by rw [T.dm]; unfold SetTable.has; simp
 have e:(t.put j).1={t with place:=SetTable.insertAt t.place (SetTable.below t.place j) j}:=by
  unfold SetTable.put
  rw [hd]; rfl
 have e2:(t.put j).2=SetTable.below t.place j:=rfl
 rw [e,e2]
 refine⟨⟨T.dm,fun i k v u hi hk hlt=> ?_,fun y ⟨i,hi⟩=> ?_, ?_,T.m3,hr,T.plain,T.led⟩,rfl,by rw [←T.sz]; exact hb.1⟩
 ·have hi':(SetTable.insertAt t.place (SetTable.below t.place j) j)[i]? =some v:=hi
  have hk':(SetTable.insertAt t.place (SetTable.below t.place j) j)[k]? =some u:=hk
  rw [YN _ hb.1] at hi' hk'
  by_cases c1:i < SetTable.below t.place j
  ·rw [if_pos c1] at hi'
   by_cases c2:k < SetTable.below t.place j
   ·rw [if_pos c2] at hk'
    exact T.up _ _ _ _ hi' hk' hlt
   ·rw [if_neg c2] at hk'
    by_cases c3:k=SetTable.below t.place j
    ·rw [if_pos c3] at hk'
     cases hk'
     exact hb.2.1 _ _ hi' c1
    ·rw [if_neg c3] at hk'
     exact T.up _ _ _ _ hi' hk' (by omega)
  ·rw [if_neg c1] at hi'
   by_cases c2:i=SetTable.below t.place j
   ·rw [if_pos c2] at hi'
    cases hi'
    rw [if_neg (by omega),if_neg (by omega)] at hk'
    have q:=hb.2.2 _ _ hk' (by omega)
    rcases ydq j u with c | c
    ·exact c
    ·have:u=j:=by omega
     subst this
     exact absurd ⟨_,hk'⟩ hn
   ·rw [if_neg c2] at hi'
    rw [if_neg (by omega),if_neg (by omega)] at hk'
    exact T.up _ _ _ _ hi' hk' (by omega)
 ·have hi':(SetTable.insertAt t.place (SetTable.below t.place j) j)[i]? =some y:=hi
  rw [YN _ hb.1] at hi'
  show y≤t.mask
  split at hi'
  ·exact T.le y ⟨_,hi'⟩
  ·split at hi'
   ·cases hi'; exact hj
   ·exact T.le y ⟨_,hi'⟩
 ·show(SetTable.insertAt t.place (SetTable.below t.place j) j).size=n + 1
  rw [Lh _ hb.1,T.sz]
theorem ya8{b:Bool}{t:SetTable}{n:Nat}{es:Array (Int × Value)}(T:Tab b t n)(hes:es.size=n)(hr:n + 1≤t.mask)(h:Int)(x:Value) :
  ∃es' t',layNew t es h x=(es',t',false,false)∧Tab b t' (n + 1)∧t'.mask=t.mask∧es'.size=n + 1∧es'.toList.Perm ((h,x) :: es.toList):=by
 obtain⟨j,e,hj,hn⟩:=y3g (h:=h) T.dm T.up T.m3 (by rw [T.sz]; exact T.room)
 obtain⟨T',hm,hp⟩:=T.put hj hn hr
 have hs:(SetTable.insertAt es (t.put j).2 (h,x)).size=n + 1:=by rw [Lh _ (by rw [hes]; exact hp),hes]
 refine⟨SetTable.insertAt es (t.put j).2 (h,x),(t.put j).1, ?_,T',hm,hs, ?_⟩
 ·unfold layNew
  rw [e]
  show(SetTable.insertAt es (t.put j).2 (h,x),(t.put j).1.orStandIn (SetTable.insertAt es (t.put j).2 (h,x)).size,false, !(t.put j).1.fits (SetTable.insertAt es (t.put j).2 (h,x)).size)=_
  unfold SetTable.orStandIn
  rw [hs,T'.fits,if_pos rfl]; rfl
 ·rw [V1]
  refine(yhl).trans (yey.cons _ ?_)
  rw [ygk]
def Own(mask:Nat)(owner:Array (Option Nat))(k:Nat):Prop:=owner.size=mask + 1∧((ycd (mask + 1)).filterMap fun j=>owner.getD j none).Perm (ycd k)
theorem Z0{owner:Array (Option Nat)}{j:Nat}(h:j < owner.size)(d:Option Nat):owner.getD j d=owner.getD j none:=by
 rw [ydn,ydn,ydj h]; rfl
theorem qh{α β:Type}{f:α→Option β}:∀{l:List α},(∀x ∈ l,(f x).isSome)→(l.filterMap f).length=l.length
 | [],_=>rfl
 | a :: l,h=>by
  obtain⟨y,hy⟩:=yg6.mp (h a yc8)
  rw [yg7 hy,yct,yct,qh fun x hx=>h x (yc9 _ hx)]
theorem Own.gap{mask:Nat}{owner:Array (Option Nat)}{k:Nat}(o:Own mask owner k)(hk:k≤mask):∃y,y≤mask∧owner.getD y none=none:=by
 apply Classical.byContradiction
 intro hcon
 have l:=qh (f:=fun j=>owner.getD j none) (l:=ycd (mask + 1)) fun y hy=>by
  cases e:owner.getD y none with
  | some v=>rfl
  | none=>exact absurd ⟨y,by have:=ycs.mp hy; omega,e⟩ hcon
 have p:=o.2.length_eq
 rw [l,yd2,yd2] at p
 omega
theorem qC{mask:Nat}{owner:Array (Option Nat)}(hs:owner.size=mask + 1):∀(fuel i pert:Nat),i≤mask→(∃m,m < fuel∧owner.getD (lp mask m (i,pert)).1 none=none)→
  ∃j,SetTable.layClean.free mask owner fuel i pert=some j∧j≤mask∧owner.getD j none=none
 | 0,i,pert,_,⟨m,hm,_⟩=>absurd hm (yee _)
 | fuel + 1,i,pert,hi,⟨m,hm,e⟩=>by
  have r:=Vp hi
  unfold SetTable.layClean.free
  cases hf:(ycd (SetTable.runEnd mask i + 1 - i)).find? fun k=>(owner.getD (i + k) (some 0)).isNone with
  | some k=>
   have h1:=List.find?_some hf
   have h2:=ycs.mp (yh8 hf)
   refine⟨i + k,rfl,by omega, ?_⟩
   rw [←Z0 (by omega) (some 0)]
   exact yh9.mp h1
  | none=>
   have h1:=yh0.mp hf 0 (ycs.mpr (by omega))
   cases m with
   | zero=>
    refine absurd ?_ h1
    have e':owner.getD i none=none:=e
    show(owner.getD (i + 0) (some 0)).isNone=true
    rw [Nat.add_zero,Z0 (by omega),e']; rfl
   | succ m=>
    exact qC hs fuel _ _ (ydr (yf1 _ (yei _))) ⟨m,ygc hm,e⟩
theorem Wa{α β:Type}{f g:α→Option β}{l:List α}(h:∀x ∈ l,f x=g x):l.filterMap f=l.filterMap g:=by
 induction l with
 | nil=>rfl
 | cons a l ih=>
  rw [ye2,ye2,h a yc8,ih fun x hx=>h x (yc9 _ hx)]
theorem LE{owner:Array (Option Nat)}{j k y:Nat}(hj:j < owner.size):(owner.setIfInBounds j (some k)).getD y none=if y=j then some k else owner.getD y none:=by
 rw [ydn,ydn,Array.getElem?_setIfInBounds]
 by_cases c:j=y
 ·rw [if_pos c,if_pos c.symm,if_pos (c ▸ hj)]; rfl
 ·rw [if_neg c,if_neg (Ne.symm c)]
theorem Own.set{mask:Nat}{owner:Array (Option Nat)}{k j:Nat}(o:Own mask owner k)(hj:j≤mask)(hn:owner.getD j none=none):Own mask (owner.setIfInBounds j (some k)) (k + 1):=by
 refine⟨by rw [Array.size_setIfInBounds]; exact o.1, ?_⟩
 have hs:j < owner.size:=by rw [o.1]; omega
 have split:ycd (mask + 1)=ycd j ++ j :: (ycd (mask - j)).map (fun i=>j + 1 + i):=by
  rw [show mask + 1=j + (1 + (mask - j)) by omega,List.range_add,List.range_add]
  congr 1
  rw [yci,ydg]
  show(j + 0) :: List.map ((fun x=>j + x) ∘ fun x=>1 + x) (ycd (mask - j))=_
  rw [Nat.add_zero]
  congr 1
  refine ydv fun x _=> ?_
  show j + (1 + x)=j + 1 + x
  omega
 have h2:=o.2
 rw [split,yi8,List.filterMap_cons_none (f:=fun y=>owner.getD y none) hn] at h2
 have a1:(ycd j).filterMap (fun y=>(owner.setIfInBounds j (some k)).getD y none)=(ycd j).filterMap fun y=>owner.getD y none:=Wa fun y hy=>by
  have:=ycs.mp hy
  rw [LE hs,if_neg (by omega)]
 have a2:((ycd (mask - j)).map (fun i=>j + 1 + i)).filterMap (fun y=>(owner.setIfInBounds j (some k)).getD y none)=((ycd (mask - j)).map (fun i=>j + 1 + i)).filterMap fun y=>owner.getD y none:=Wa fun y hy=>by
  obtain⟨i,_,rfl⟩:=ycf.mp hy
  rw [LE hs,if_neg (by omega)]
 have a3:(owner.setIfInBounds j (some k)).getD j none=some k:=by rw [LE hs,if_pos rfl]
 rw [split,yi8,yg7 (f:=fun y=>(owner.setIfInBounds j (some k)).getD y none) a3,a1,a2,yfq]
 refine(yhl).trans ?_
 exact((yey.cons k h2)).trans (ygl (l₁:= [k]))
def VU(mask:Nat)(acc:Option (Array (Option Nat) × Nat))(h:Int):Option (Array (Option Nat) × Nat):=do
 let (owner,k) ←acc
 let j ←SetTable.layClean.free mask owner (SetTable.turns mask) (SetTable.bits h % (mask + 1)) (SetTable.bits h)
 pure (owner.setIfInBounds j (some k),k + 1)
theorem y94{mask:Nat}(hm:M3 mask){owner:Array (Option Nat)}{k:Nat}(o:Own mask owner k)(hk:k≤mask)(h:Int):∃owner',VU mask (some (owner,k)) h=some (owner',k + 1)∧Own mask owner' (k + 1):=by
 obtain⟨y,hy,hn⟩:=o.gap hk
 have hi:SetTable.bits h % (mask + 1)≤mask:=ydr (yf1 _ (yei _))
 obtain⟨m,hm1,e⟩:=MH hm (x:=(SetTable.bits h % (mask + 1),SetTable.bits h)) hi (ZO h) hy
 obtain⟨j,e1,e2,e3⟩:=qC o.1 (SetTable.turns mask) (SetTable.bits h % (mask + 1)) (SetTable.bits h) hi ⟨m,by unfold SetTable.turns; omega,by rw [e]; exact hn⟩
 refine⟨owner.setIfInBounds j (some k), ?_,o.set e2 e3⟩
 unfold VU
 simp only [yg5,yfe,e1]
 rfl
theorem y0w{mask:Nat}(hm:M3 mask):∀(hs:List Int) (owner:Array (Option Nat)) (k:Nat),Own mask owner k→k + hs.length≤mask→∃owner',hs.foldl (VU mask) (some (owner,k))=some (owner',k + hs.length)∧Own mask owner' (k + hs.length)
 | [],owner,k,o,_=>⟨owner,rfl,o⟩
 | h :: hs,owner,k,o,hk=>by
  rw [yct] at hk
  obtain⟨o1,e1,O1⟩:=y94 hm o (by omega) h
  obtain⟨o2,e2,O2⟩:=y0w hm hs o1 (k + 1) O1 (by omega)
  refine⟨o2, ?_, ?_⟩
  ·rw [yfo,e1,e2,yct]
   congr 2; omega
  ·rw [yct,show k + (hs.length + 1)=k + 1 + hs.length by omega]; exact O2
theorem own0(mask:Nat):Own mask (yf5 (mask + 1) none) 0:=by
 refine⟨Array.size_replicate .., ?_⟩
 have e:(ycd (mask + 1)).filterMap (fun j=>(yf5 (mask + 1) (none:Option Nat)).getD j none)= []:=by
  rw [List.filterMap_eq_nil_iff]
  intro j hj
  rw [ydn,yhh]
  split <;> rfl
 rw [e]; exact .nil
theorem y6h{mask:Nat}(hm:M3 mask)(hs:Array Int)(hk:hs.size≤mask):∃owner,SetTable.layClean mask hs=some owner∧Own mask owner hs.size:=by
 obtain⟨o,e,O⟩:=y0w hm hs.toList _ 0 (own0 mask) (by rw [ycn]; omega)
 rw [ycn,yfi] at e O
 refine⟨o, ?_,O⟩
 unfold SetTable.layClean
 rw [←yiu]
 have:hs.toList.foldl (VU mask) (some (yf5 (mask + 1) none,0))=some (o,hs.size):=e
 show(Option.map (·.1) (hs.toList.foldl (VU mask) (some (yf5 (mask + 1) none,0))))=some o
 rw [this]; rfl
theorem V4{owner:Array (Option Nat)}:∀(l:List Nat),(l.filterMap fun j=>(owner.getD j none).map (j, ·)).map (·.1)=l.filter fun j=>(owner.getD j none).isSome
 | []=>rfl
 | a :: l=>by
  rw [ye2,ydb]
  cases e:owner.getD a none with
  | none=>exact V4 l
  | some v=>
   rw [yhu]
   show a :: _=_
   rw [yit,if_pos rfl,V4 l]
theorem MB{owner:Array (Option Nat)}:∀(l:List Nat),(l.filterMap fun j=>(owner.getD j none).map (j, ·)).map (·.2)=l.filterMap fun j=>owner.getD j none
 | []=>rfl
 | a :: l=>by
  rw [ye2,ye2]
  cases e:owner.getD a none with
  | none=>exact MB l
  | some v=>
   rw [yhu]
   show v :: _=v :: _
   rw [MB l]
theorem Mg{l:List Nat}(h:l.Pairwise (· < ·)):Up l.toArray:=by
 intro i k v u hi hk hlt
 rw [yef] at hi hk
 obtain⟨a1,a2⟩:=yc5.mp hi
 obtain⟨b1,b2⟩:=yc5.mp hk
 have:=yeq.mp h i k a1 b1 hlt
 rw [a2,b2] at this
 exact this
theorem y7u{b:Bool}{t:SetTable}{n:Nat}{es:Array (Int × Value)}(T:Tab b t n)(hes:es.size=n)(wanted:Nat)(hm:M3 (SetTable.sizeAbove wanted - 1))(hn:n≤SetTable.sizeAbove wanted - 1) :
  ∃es' t',relayAll t es wanted=(es',t',false)∧Tab b t' n∧t'.mask=SetTable.sizeAbove wanted - 1∧es'.size=n∧es'.toList.Perm es.toList:=by
 obtain⟨owner,e,O⟩:=y6h hm (es.map (·.1)) (by rw [ygy,hes]; exact hn)
 rw [ygy,hes] at O
 generalize hM:SetTable.sizeAbove wanted - 1=mask at hm hn e O ⊢
 have e1:t.relaid (es.map (·.1)) wanted=some ({mask:=mask,place:=(((ycd (mask + 1)).filterMap fun j=>(owner.getD j none).map (j, ·)).map (·.1)).toArray,dummies:=#[],finger:=t.finger,led:=t.led,moves:=t.movedTo mask,plain:=t.plain},
   (((ycd (mask + 1)).filterMap fun j=>(owner.getD j none).map (j, ·)).map (·.2)).toArray):=by
  unfold SetTable.relaid SetTable.laid
  rw [hM]
  simp only [yg5,e,yfe]
  rfl
 have hp:(((ycd (mask + 1)).filterMap fun j=>(owner.getD j none).map (j, ·)).map (·.2)).Perm (ycd n):=by rw [MB]; exact O.2
 have hlen:((ycd (mask + 1)).filterMap fun j=>(owner.getD j none).map (j, ·)).length=n:=by
  have:=hp.length_eq
  rwa [yc2,yd2] at this
 have T':Tab b {mask:=mask,place:=(((ycd (mask + 1)).filterMap fun j=>(owner.getD j none).map (j, ·)).map (·.1)).toArray,dummies:=#[],finger:=t.finger,led:=t.led,moves:=t.movedTo mask,plain:=t.plain} n:=by
  refine⟨rfl, ?_,fun j ⟨i,hi⟩=> ?_, ?_,hm,hn,T.plain,T.led⟩
  ·show Up _
   rw [V4]
   exact Mg (yep.filter _ yfp)
  ·have hi':(((ycd (mask + 1)).filterMap fun j=>(owner.getD j none).map (j, ·)).map (·.1)).toArray[i]? =some j:=hi
   rw [V4,yef] at hi'
   have:=(yd0.mp (yce hi')).1
   show j≤mask
   exact ydr (ycs.mp this)
  ·show Array.size _=n
   rw [yc7,yc2]; exact hlen
 have hfm:((((ycd (mask + 1)).filterMap fun j=>(owner.getD j none).map (j, ·)).map (·.2)).toArray.filterMap (es[·]?)).size=n:=by
  rw [←ycn,yfr,qh,yc2]
  ·exact hlen
  ·intro y hy
   have hy':=ycs.mp (hp.mem_iff.mp hy)
   rw [ydj (by omega)]; rfl
 have e2:relayAll t es wanted=((((ycd (mask + 1)).filterMap fun j=>(owner.getD j none).map (j, ·)).map (·.2)).toArray.filterMap (es[·]?),{mask:=mask,place:=(((ycd (mask + 1)).filterMap fun j=>(owner.getD j none).map (j, ·)).map (·.1)).toArray,dummies:=#[],finger:=t.finger,led:=t.led,moves:=t.movedTo mask,plain:=t.plain},false):=by
  unfold relayAll
  rw [e1]
  dsimp only
  rw [hfm,T'.fits]
  have hc:coversAll ((((ycd (mask + 1)).filterMap fun j=>(owner.getD j none).map (j, ·)).map (·.2)).toArray) es.size=true:=by
   unfold coversAll
   rw [hes]
   exact List.isPerm_iff.mpr hp
  rw [hc]; rfl
 have hperm:=relayAll_perm t es wanted
 rw [e2] at hperm
 exact⟨_,_,e2,T',rfl,hfm,hperm⟩
end STab
namespace L2
open PySem PySem.Spec PyProof.Rows STab
def byT(w:World):Bool:=w.params.followText "set-order"
def Zd:Value→Int
 | .int k _=>k
 | _=>0
theorem y10{P:Program}{w:World}{k:Int}{v:Value}(h:(intKind P w).is k v=true):Zd v=k:=by
 obtain⟨t,rfl⟩:=Value.isInt_shape (k:=k) (v:=v) h
 rfl
def LL(P:Program)(w:World)(h:Heap)(a:Addr)(ks:List Int):Prop:=∃(o:Obj) (es:Array (Int × Value)) (ep:Nat) (t:SetTable),h.get? a=some o∧o.ExactSet∧o.data= .set es ep t∧ElemsOf (intKind P w) es.toList∧
 (es.toList.map fun e=>Zd e.2).Perm ks∧Tab (!byT w) t es.size∧es.size * 5 < t.mask * 3
theorem LL.stay{P:Program}{w:World}{h h':Heap}{a:Addr}{ks:List Int}(x:LL P w h a ks)(k:∀o,h.get? a=some o→h'.get? a=some o):LL P w h' a ks:=by
 obtain⟨o,es,ep,t,ho,r⟩:=x
 exact⟨o,es,ep,t,k o ho,r⟩
def MC(ks:List Int)(k:Int):List Int:=if k ∈ ks then ks else ks ++ [k]
section
variable{P:Program}{w:World}{A:Around}{E:Value→Shared→Prop}{s:Shared}
theorem xR{es:Array (Int × Value)}{k:Int}(hel:ElemsOf (intKind P w) es.toList):(∃e ∈ es.toList,(intKind P w).is k e.2=true)↔k ∈ es.toList.map fun e=>Zd e.2:=by
 constructor
 ·rintro⟨e,he,q⟩
  exact ycf.mpr ⟨e,he,y10 q⟩
 ·intro m
  obtain⟨e,he,rfl⟩:=ycf.mp m
  obtain⟨⟨k',hk',_⟩,_⟩:=hel e he
  exact⟨e,he,by rw [y10 hk']; exact hk'⟩
theorem MW{h:Heap}{a:Addr}{o:Obj}{es es':Array (Int × Value)}{ep:Nat}{t t':SetTable}(ho:h.get? a=some o)(hd:o.data= .set es ep t):(h.update a (Obj.putSet es' t')).get? a=some {o with data:= .set es' (ep + 1) t'}:=by
 have q:=Heap.get?_update_self (Obj.putSet es' t') ho (by rw [putSet_of es' t' hd]; rfl)
 rwa [putSet_of es' t' hd] at q
theorem add_int{a:Addr}{ks:List Int}{k:Int}{tk:Nat}{Q:Bool→Shared→Prop}(hI:LL P w s.heap a ks)(hl:ks.length≤75)(h:∀h' b,Heap.SameBut a s.heap h'→LL P w h' a (MC ks k)→Q b {s with heap:=h'}) :
  wpAny (model P w) A (setAddHashed a (.int k tk) ((intKind P w).hash k)) Q E s:=by
 obtain⟨o,es,ep,t,ho,hx,hd,hel,hp,T,hfull⟩:=hI
 have hsz:es.size=ks.length:=by rw [←hp.length_eq,yc2,ycn]
 have hf:=T.fits
 unfold setAddHashed setAddHashedIn
 refine wpAny_holding (wpAny_bind (wpAny_setState_of ho hd hf ?_))
 have hby:byScan (.int k tk) es=true:=byScan_of (knd:=intKind P w) rfl (by unfold scanBound; omega) hel
 dsimp only
 rw [hby,if_pos rfl]
 unfold setAddByScan
 refine wpAny_bind (wpAny_bind (wpAny_rule (wpAny_bind (wpAny_setScan_of (knd:=intKind P w) (k:=k) (intKind_is _ _ _ _) ho hd hf hel ?_))))
 cases hr:List.findIdx? (fun e=>(intKind P w).is k e.2) es.toList with
 | some j=>
  obtain⟨hj,hpj,_⟩:=yfa.mp hr
  have hin:k ∈ ks:=hp.mem_iff.mp ((xR hel).mp ⟨_,yg1 hj,hpj⟩)
  dsimp only
  refine wpAny_pure (wpAny_pure ?_)
  have q:=h s.heap false (Heap.SameBut.refl a s.heap) ⟨o,es,ep,t,ho,hx,hd,hel,by unfold MC; rw [if_pos hin]; exact hp,T,hfull⟩
  exact q
 | none=>
  have hout:k ∉ ks:=fun m=>by
   obtain⟨e,he,q⟩:=(xR (P:=P) (w:=w) hel).mpr (hp.mem_iff.mpr m)
   have:=yha.mp hr e he
   rw [q] at this
   cases this
  have hmask:es.size + 1≤t.mask:=by
   rcases T.m3 with e | e | e <;> omega
  obtain⟨es1,t1,e1,T1,m1,z1,p1⟩:=ya8 T rfl hmask ((intKind P w).hash k) (.int k tk)
  have hel1:ElemsOf (intKind P w) es1.toList:=fun e he=>by
   rcases ycg.mp (p1.mem_iff.mp he) with q | q
   ·rw [q]; exact⟨⟨k,intKind_is _ _ _ _,rfl⟩,rfl⟩
   ·exact hel e q
  have hp1:(es1.toList.map fun e=>Zd e.2).Perm (MC ks k):=by
   unfold MC
   rw [if_neg hout]
   refine(p1.map _).trans ?_
   rw [ycv]
   exact(yey.cons k hp).trans (ygl (l₁:= [k]))
  dsimp only
  rw [e1]
  dsimp only
  refine wpAny_bind (wpAny_pure ?_)
  rw [T1.plain,if_pos rfl]
  refine wpAny_bind (wpAny_pure ?_)
  try dsimp only
  rw [if_pos rfl]
  refine wpAny_bind (wpAny_storeSet_of ho hd ?_ (by rw [z1,sizeLine_eq]; omega))
  have ho1:=MW (es':=es1) (t':=t1) ho hd
  have sb1:=Heap.SameBut.update s.heap a (Obj.putSet es1 t1)
  by_cases c:t1.tooFull=true
  ·rw [c]
   have hn:es1.size * 5 ≥ t1.mask * 3:=by
    unfold SetTable.tooFull SetTable.fill at c
    rw [T1.dm,T1.sz] at c
    have:=of_decide_eq_true c
    simp at this
    omega
   have hM:M3 (SetTable.sizeAbove (SetTable.grown es1.size) - 1)∧es1.size≤SetTable.sizeAbove (SetTable.grown es1.size) - 1∧es1.size * 5 < (SetTable.sizeAbove (SetTable.grown es1.size) - 1) * 3:=by
    rcases T.m3 with e | e | e
    ·have z:es1.size=5:=by omega
     rw [z]
     exact⟨.inr (.inl (by decide)),by decide,by decide⟩
    ·have z:es1.size=19:=by omega
     rw [z]
     exact⟨.inr (.inr (by decide)),by decide,by decide⟩
    ·omega
   obtain⟨es2,t2,e2,T2,m2,z2,p2⟩:=y7u (es:=es1) (z1 ▸ T1) rfl (SetTable.grown es1.size) hM.1 hM.2.1
   rw [if_pos (by rfl)]
   rw [e2]
   dsimp only
   refine wpAny_bind (wpAny_pure ?_)
   refine wpAny_bind (wpAny_storeSet_of ho1 rfl ?_ (by rw [z2,z1,sizeLine_eq]; omega))
   refine wpAny_pure (wpAny_pure ?_)
   refine h _ true (sb1.trans (Heap.SameBut.update _ a _)) ⟨_,es2,_,t2,MW ho1 rfl,hx,rfl,fun e he=>hel1 e (p2.mem_iff.mp he),(p2.map _).trans hp1,z2 ▸ T2, ?_⟩
   rw [z2,m2]; exact hM.2.2
  ·rw [if_neg (by simpa using c)]
   refine wpAny_pure (wpAny_pure ?_)
   refine h _ true sb1 ⟨_,es1,_,t1,ho1,hx,rfl,hel1,hp1,z1 ▸ T1, ?_⟩
   unfold SetTable.tooFull SetTable.fill at c
   rw [T1.dm,T1.sz] at c
   have:=of_decide_eq_false (ydh.mpr c)
   simp at this
   omega
theorem y7b{R:Result→Shared→Prop}{I:Addr}{fp wr:List Addr}{G:Array GenState→Array GenState→Prop}{n:Nat}{Pv:Nat→Value→Prop}{St:Nat→Shared→Prop}(W:WalksS P w A.in1 I fp wr G n Pv St){S:Addr}(hSf:S ∉ fp)
  (val:Nat→Int) (hval:∀i v,Pv i v→∃t,v= .int (val i) t) (hb:n≤75):∀(m i:Nat) (z:Shared) (ks:List Int),n - i=m→i≤n→St i z→LL P w z.heap S ks→ks.Nodup→ks.length≤i→
   (∀z' ks',Moved (S :: wr) G z z'→LL P w z'.heap S ks'→ks'.Nodup→ks'.length≤n→(∀x,x ∈ ks'↔x ∈ ks∨∃j,i≤j∧j < n∧val j=x)→R (.ok (.ret .none)) z')→
   codeAny (model P w) A (.builtin "set.update.loop" ⟨[.ref S, .ref I], []⟩) R z:=by
 have hSw:S ∉ wr:=fun q=>hSf (W.sub _ q)
 intro m
 induction m with
 | zero=>
  intro i z ks hm hi st hS nd hk hR
  have e:i=n:=by omega
  subst e
  refine codeAny_builtin F.entry_set_update_loop ?_
  rw [Around.under_plainId F.plain_set_update_loop _]
  refine wpAny_bind (m:=pyNext (.ref I)) (W.done z _ _ st fun z' mv=>wpAny_pure ?_)
  exact hR z' ks (mv.mono fun b hb=>yc9 _ hb) (hS.stay fun o q=>mv.heap S o hSw q) nd hk fun x=>⟨.inl,fun q=>by
   rcases q with q | ⟨j,h1,h2,_⟩
   ·exact q
   ·omega⟩
 | succ m ih=>
  intro i z ks hm hi st hS nd hk hR
  have hlt:i < n:=by omega
  refine codeAny_builtin F.entry_set_update_loop ?_
  rw [Around.under_plainId F.plain_set_update_loop _]
  refine wpAny_bind (m:=pyNext (.ref I)) (W.item i z _ _ hlt st fun v z' hv st' mv=> ?_)
  obtain⟨t,rfl⟩:=hval i v hv
  refine wpAny_bind (m:=holding _ _) (wpAny_holding ?_)
  unfold setAdd
  refine wpAny_holding (wpAny_bind ((intKind P w).pyHash (k:=val i) (intKind_is _ _ _ _) ?_))
  refine add_int (s:={z' with toks:=z'.toks + 1}) (hS.stay fun o q=>mv.heap S o hSw q) (by omega) fun h' b sb hS'=> ?_
  refine wpAny_pure ⟨plainId_quiet F.plain_set_update_loop _,ih (i + 1) _ (MC ks (val i)) (by omega) hlt (W.frame _ z' _ _ st' (yez _) fun b hb o q=> ?_) hS' ?_ ?_ fun z'' ks' mv' hS'' nd' hk' hx=> ?_⟩
  ·rw [sb.2 b fun q':b=S=>hSf (by rw [←q']; exact hb)]; exact q
  ·unfold MC
   split
   ·exact nd
   ·rename_i hn
    exact Lz nd hn
  ·unfold MC
   split
   ·omega
   ·rw [ycr,yd5]; omega
  ·refine hR z'' ks' (Moved.trans W.gtrans ((mv.mono fun b hb=>yc9 _ hb).then_heap (yez _) fun b o hb q=> ?_) mv') hS'' nd' hk' fun x=> ?_
   ·rw [sb.2 b fun q':b=S=>hb (by rw [q']; exact yc8)]; exact q
   ·rw [hx x]
    have hadd:x ∈ MC ks (val i)↔x ∈ ks∨x=val i:=by
     unfold MC
     split
     ·rename_i hin
      exact⟨.inl,fun q=>q.elim id fun q=>by rw [q]; exact hin⟩
     ·rw [ycw,ycb]
    rw [hadd]
    constructor
    ·rintro((q | q) | ⟨j,h1,h2,h3⟩)
     ·exact .inl q
     ·exact .inr ⟨i,yc6 _,hlt,q.symm⟩
     ·exact .inr ⟨j,by omega,h2,h3⟩
    ·rintro(q | ⟨j,h1,h2,h3⟩)
     ·exact .inl (.inl q)
     ·rcases ydq i j with c | c
      ·exact .inr ⟨j,c,h2,h3⟩
      ·have:j=i:=by omega
       subst this
       exact .inl (.inr h3.symm)
def Jb(b:Bool):Obj:={cls:= .type "set",dict:=none,data:= .set #[] 0 (.fresh 0 0 b)}
theorem Wx{h:Heap}{a:Addr}(e:h.get? a=some (Jb (!byT w))):LL P w h a []:=
 ⟨_,#[],0,_,e,⟨rfl,rfl,rfl⟩,rfl,fun e he=>by simp at he,by simp,⟨rfl,fun i k v u hi=>by simp [SetTable.fresh] at hi,fun j ⟨i,hi⟩=>by simp [SetTable.fresh] at hi,rfl, .inl rfl,by show 0≤7; decide,rfl,rfl⟩,by show 0 * 5 < 7 * 3; decide⟩
theorem y0x{B:Around}{z:Shared}(x:Value){Q₁:Value→Shared→Prop}(h:Q₁ (.ref z.heap.objs.size) {z with heap:=z.heap.push (Jb (!byT w))}) :
  codeAny (model P w) B (.call (.builtin "set.__new__") ⟨[.type "set",x], []⟩) (wants Q₁ E) z:=by
 refine codeAny_of_tree ?_
 show wpAny _ B.in1 (do checkBuiltinCall "set.__new__" ⟨[.type "set",x], []⟩; again (.builtin "set.__new__" ⟨[.type "set",x], []⟩)) _ _ z
 refine wpAny_bind (wpAny_of_eq (PySem.F.newCall_set_1 x) (wpAny_pure ⟨plainId_quiet yi9 _,codeAny_builtin PySem.F.entry_set_new ?_⟩))
 rw [Around.under_plainId yi9 _]
 unfold Builtin.«set.__new__» Builtin.Frozenset.newClass
 have own:=sub_set_self
 obtain⟨zh,zg,zd,zt,zo⟩:=z
 dsimp only
 wp_walk
 refine wpAny_askSetting (wpAny_pure ?_)
 dsimp only
 simp only [newObj]
 exact wpAny_bind (wpAny_alloc (wpAny_pure (wpAny_pure h)))
set_option maxHeartbeats 3200000 in
theorem y07{l:Addr}{its:Array Value}{ns:List Int}{Q:Value→Shared→Prop}(hcalm:A.handled=none)(hL:s.heap.IsList l its)(hns:IntsAre its.toList ns)(hb:its.size≤75)
  (h:∀(h':Heap) (tk:Nat) (ks:List Int),LL P w h' s.heap.objs.size ks→ks.Nodup→ks.length≤its.size→(∀x,x ∈ ks↔x ∈ ns)→(∀b o,s.heap.get? b=some o→h'.get? b=some o)→Q (.ref s.heap.objs.size) {s with heap:=h',toks:=tk}) :
  wpAny (model P w) A (call (.type "set") [.ref l]) Q E s:=by
 obtain⟨mc,mt,hmro⟩:=ydc.mro
 have made:=ydc.made
 have sub:=ydc.sub
 refine wpAny_call (codeAny_of_tree ?_)
 show wpAny _ _ (callAny (.type "set") _) _ _ _
 refine wpAny_pure ⟨Code.quiet_builtin _ (by decide +kernel),codeAny_builtin yhs ?_⟩
 rw [Around.under_plain (weight_type_call_type "set" [.ref l] []) rfl]
 have t1:=ydc.notType
 have t2:=ydc.canCreate
 have t3:=yi2 (.ref l)
 repeat (any_goals (first | assumption | wp_step))
 refine codeAny_mono (y0x (.ref l) (E:=E) (Q₁:=fun ob z=>ob= .ref s.heap.objs.size∧z={s with heap:=s.heap.push (Jb (!byT w))}) ⟨rfl,rfl⟩) fun r z hr=> ?_
 cases r with
 | error e=>exact hr
 | ok fl=>
  cases fl with
  | ret ob=>
   obtain⟨rfl,rfl⟩:=hr
   have hS:(s.heap.push (Jb (!byT w))).get? s.heap.objs.size=some (Jb (!byT w)):=Heap.get?_push_size _ rfl
   have hT:Shared.TypeIs {s with heap:=s.heap.push (Jb (!byT w))} (.ref s.heap.objs.size) "set":=⟨_,hS,rfl⟩
   have u1:=ydc.init.lookup
   have u2:=ydc.init.bind (.ref s.heap.objs.size)
   repeat (any_goals (first | assumption | wp_step))
   refine codeAny_mono (codeAny_call_builtin (R:=wants (fun r z=>r= .none∧∃h' tk ks,z={s with heap:=h',toks:=tk}∧LL P w h' s.heap.objs.size ks∧ks.Nodup∧ks.length≤its.size∧(∀x,x ∈ ks↔x ∈ ns)∧(∀b o,s.heap.get? b=some o→h'.get? b=some o)) E)
    ydc.init.plain yi3 (check_set_init_1 hT ?_)) fun r z hr=> ?_
   ·obtain⟨ol,hol,oc,nl,od⟩:=hL
    obtain⟨c0,d0,x0,sl0⟩:=ol
    simp only at oc od
    subst oc
    subst od
    have hol1:(s.heap.push (Jb (!byT w))).get? l=some {cls:= .type "list",dict:=d0,data:= .seq its nl,slots:=sl0}:=Heap.get?_push_of_some _ hol
    have v1:=yii
    have v2:=yh4
    have v3:(Value.type "list" == Value.type "dict")=false:=by decide
    have hl1:(s.heap.push (Jb (!byT w))).IsList l its:=⟨_,hol1,rfl,nl,rfl⟩
    unfold Builtin.«set.__init__» noKeywords Builtin.Frozenset.updateFrom
    have hS':(s.heap.push (Jb (!byT w))).get? s.heap.objs.size=some {cls:= .type "set",dict:=none,data:= .set #[] 0 (.fresh 0 0 (!byT w))}:=hS
    generalize hPI:pyIter=PI
    wp_walk
    subst hPI
    refine wpAny_pyIter_list hl1 (wpAny_bind (wpAny_runValue ?_))
    have lS:l < s.heap.objs.size:=Heap.lt_size hol
    have calm3:A.in1.in1.in1.handled=none:=by simp [hcalm]
    have nI:l ≠ (s.heap.push (Jb (!byT w))).objs.size:=by rw [Heap.size_push]; exact ycj (ydi lS)
    have nS:s.heap.objs.size ∉ [(s.heap.push (Jb (!byT w))).objs.size,l]:=by
     rw [Heap.size_push]
     intro q
     rcases ycg.mp q with q | q
     ·exact absurd q (ycj (yeh _))
     ·rw [ycb] at q
      exact absurd q (ydf lS)
    refine y7b ((Walks.list calm3 _ l nI its).toS) nS (fun i=>ns.getD i 0) (fun i v hv=>IntsAre.int_at hns i v (by rw [ycy]; exact hv)) hb its.size 0 _ [] (by omega) (yd9 _)
     ⟨⟨_,Heap.get?_push_size _ rfl,rfl,rfl⟩,hl1.push _⟩ (Wx (Heap.get?_push_of_some _ hS)) yfd (yc6 _) fun z' ks mv hI nd hk hx=> ?_
    obtain⟨zh,zg,zd,zt,zo⟩:=z'
    have e1:zg=s.gens:=mv.gens
    have e2:zd=s.drawn:=mv.drawn
    have e3:zo=s.os:=mv.os
    subst e1
    subst e2
    subst e3
    refine wpAny_pure (wpAny_pure ⟨rfl,zh,zt,ks,rfl,hI,nd,hk,fun x=> ?_,fun b o q=> ?_⟩)
    ·rw [hx x]
     have hlen:its.size=ns.length:=by rw [←ycn]; exact IntsAre.length hns
     constructor
     ·rintro(q | ⟨j,_,hj,rfl⟩)
      ·cases q
      ·show ns.getD j 0 ∈ ns
       rw [ycc,yc4 (by omega)]
       exact yg1 _
     ·intro q
      obtain⟨j,hj⟩:=yd1.mp q
      exact .inr ⟨j,yd9 _,by rw [hlen]; exact(yc5.mp hj).1,by show ns.getD j 0=x; rw [ycc,hj]; rfl⟩
    ·have lb:=Heap.lt_size q
     refine mv.heap b o (fun m=> ?_) (Heap.get?_push_of_some _ (Heap.get?_push_of_some _ q))
     rcases ycg.mp m with m | m
     ·exact absurd m (ycj lb)
     ·rw [ycb,Heap.size_push] at m
      exact absurd m (ycj (ydi lb))
   ·cases r with
    | error e=>exact hr
    | ok fl=>
     cases fl with
     | ret r=>
      obtain⟨rfl,h',tk,ks,rfl,a1,a2,a3,a4,a5⟩:=hr
      repeat (any_goals (first | assumption | wp_step))
      exact h _ _ ks a1 a2 a3 a4 a5
     | _=>exact hr.elim
  | _=>exact hr.elim
end
end L2
namespace L2
open PySem PySem.Spec PyProof.Rows STab
theorem qj{α:Type}:∀(l:List α) (i:Nat) (h:i < l.length),(l[i] :: l.eraseIdx i).Perm l
 | [],i,h=>absurd h (yee _)
 | a :: l,0,h=>yey.refl _
 | a :: l,i + 1,h=>(yey.swap a _ _).trans (yey.cons a (qj l i (ygc h)))
theorem y0n{α:Type}(next:Nat→Nat):∀(fuel k:Nat) (left:List α) (out:Array α),left.length=fuel→(pickOrder.go next fuel k left out).toList.Perm (out.toList ++ left)
 | 0,k,left,out,h=>by
  have:left= []:=yfs h
  subst this
  rw [ye0]
  exact yey.refl _
 | fuel + 1,k,left,out,h=>by
  unfold pickOrder.go
  have hlt:next k % left.length < left.length:=yf1 _ (by omega)
  rw [yc4 hlt]
  dsimp only
  refine(y0n next fuel (k + 1) _ _ (by rw [List.length_eraseIdx_of_lt hlt]; omega)).trans ?_
  rw [Array.toList_push,yek]
  exact yey.append_left _ (qj left _ hlt)
theorem y4r{α:Type}(next:Nat→Nat)(xs:Array α):(pickOrder next xs).toList.Perm xs.toList:=by
 have q:=y0n next xs.size 0 xs.toList #[] (ycn ..)
 unfold pickOrder
 simpa using q
def itO(sl i n ep:Nat)(a:Addr):Obj:={cls:= .type "set_iterator",data:= .fields #[.int sl 0, .int i 0, .ref a, .int n 0, .int ep 0]}
theorem JZ:Slot "set_iterator" "__next__" "set_iterator.__next__":= .of (owner:="set_iterator") (n:="__next__") (by rw [typeLookup_type,builtinLookup_eq_fast]; kernel_rfl)
 (by decide +kernel) (by decide +kernel) (by decide +kernel) (by first | exact .inl (by decide +kernel) | exact .inr (by decide +kernel)) (by rw [isSubtype_type]; kernel_rfl)
theorem Zl:Slot "set_iterator" "__iter__" "set_iterator.__iter__":= .of (owner:="set_iterator") (n:="__iter__") (by rw [typeLookup_type,builtinLookup_eq_fast]; kernel_rfl)
 (by decide +kernel) (by decide +kernel) (by decide +kernel) (by first | exact .inl (by decide +kernel) | exact .inr (by decide +kernel)) (by rw [isSubtype_type]; kernel_rfl)
theorem Z4:entryFor table "set_iterator.__next__" =some Builtin.«set_iterator.__next__»:=entryFor_of_tree (by kernel_rfl)
theorem z7:entryFor table "set_iterator.__iter__" =some Builtin.«dict_keyiterator.__iter__»:=entryFor_alias (id':="dict_keyiterator.__iter__") (by kernel_rfl) (by first | rfl | decide +kernel) (by decide +kernel) (by kernel_rfl)
theorem W1:entryFor table "set.__iter__" =some Builtin.«frozenset.__iter__»:=entryFor_alias (id':="frozenset.__iter__") (by kernel_rfl) (by first | rfl | decide +kernel) (by decide +kernel) (by kernel_rfl)
theorem Zc(x:Value):argsOk "set_iterator.__next__" ⟨[x], []⟩:=by unfold argsOk; kernel_rfl
theorem WH(x:Value):argsOk "set_iterator.__iter__" ⟨[x], []⟩:=by unfold argsOk; kernel_rfl
def jV(w:World)(a:Addr)(ep:Nat)(es:Array (Int × Value)):List (Int × Value):=if byT w=true then(pickOrder (w.params.setOrder a ep) es).toList else es.toList
def slF(w:World)(t:SetTable):Nat→Nat
 | 0=>0
 | i + 1=>if byT w=true then 0 else t.place.getD i 0 + 1
theorem Mx(w:World)(a:Addr)(ep:Nat)(es:Array (Int × Value)):(jV w a ep es).Perm es.toList:=by
 unfold jV
 split
 ·exact y4r _ _
 ·exact yey.refl _
theorem ZV(w:World)(a:Addr)(ep:Nat)(es:Array (Int × Value)):(jV w a ep es).length=es.size:=by rw [(Mx w a ep es).length_eq,ycn]
theorem y7e{w:World}{t:SetTable}(hb:byT w=false)(hu:Up t.place):∀(i:Nat),i≤t.place.size→SetTable.below t.place (slF w t i)=i
 | 0,_=>by
  obtain⟨h1,h2,h3⟩:=jU (j:=slF w t 0) hu
  rcases yh1 (SetTable.below t.place (slF w t 0)) with c | c
  ·exact c
  ·have hs:0 < t.place.size:=by omega
   exact absurd (h2 0 _ (VL hs) c) (yee _)
 | i + 1,hi=>by
  have e:slF w t (i + 1)=t.place.getD i 0 + 1:=by show(if byT w=true then _ else _)=_; rw [hb]; rfl
  rw [e]
  obtain⟨h1,h2,h3⟩:=jU (j:=t.place.getD i 0 + 1) hu
  have ei:=VL (xs:=t.place) (i:=i) (by omega)
  rcases yf6 (SetTable.below t.place (t.place.getD i 0 + 1)) (i + 1) with c | c | c
  ·have:=h3 i _ ei (by omega)
   omega
  ·exact c
  ·have e2:=VL (xs:=t.place) (i:=i + 1) (by omega)
   have q1:=h2 (i + 1) _ e2 c
   have q2:=hu i (i + 1) _ _ ei e2 (yeh _)
   omega
section
variable{P:Program}{w:World}{A:Around}{E:Value→Shared→Prop}{s:Shared}{a I:Addr}{o:Obj}{es:Array (Int × Value)}{ep:Nat}{t:SetTable}
theorem zC{i:Nat}{Q:Option (Value × Nat)→Shared→Prop}(ho:s.heap.get? a=some o)(hd:o.data= .set es ep t)(T:Tab (!byT w) t es.size)(hi:i≤es.size)
  (h:Q (((jV w a ep es)[i]?).map fun e=>(e.2,slF w t (i + 1))) s):wpAny (model P w) A (setNext a (slF w t i) i ep) Q E s:=by
 unfold setNext
 refine wpAny_bind (wpAny_setState_of ho hd T.fits ?_)
 dsimp only
 unfold setsByText
 refine wpAny_bind (wpAny_bind (wpAny_askSetting (wpAny_pure ?_)))
 show wpAny _ _ (if byT w=true then _ else _) _ _ _
 by_cases c:byT w=true
 ·rw [if_pos c]
  have e1:(ep != ep)=false:=by simp
  rw [e1,if_neg (by decide)]
  unfold setWalk
  refine wpAny_bind (wpAny_bind (wpAny_setState_of ho hd T.fits ?_))
  dsimp only
  unfold setsByText
  refine wpAny_bind (wpAny_bind (wpAny_askSetting (wpAny_pure ?_)))
  show wpAny _ _ (if byT w=true then _ else _) _ _ _
  rw [if_pos c]
  refine wpAny_bind (wpAny_askSetting (wpAny_pure (wpAny_pure ?_)))
  have e2:slF w t (i + 1)=slF w t i:=by
   cases i with
   | zero=>show(if byT w=true then 0 else _)=0; rw [if_pos c]
   | succ i=>show(if byT w=true then 0 else _)=(if byT w=true then 0 else _); rw [if_pos c,if_pos c]
  unfold jV at h
  rw [if_pos c,e2,ycy] at h
  exact h
 ·rw [if_neg c]
  have cf:byT w=false:=ydh.mpr c
  have hdr:(!t.plain && decide (es.size > 1))=false:=by rw [T.plain]; rfl
  refine wpAny_ite_split (fun hab=>absurd (show(!t.plain && decide (es.size > 1))=true from hab) (by rw [hdr]; decide)) (fun _=> ?_)
  have hled:t.led=true:=by rw [T.led,cf]; rfl
  refine wpAny_bind ?_
  show wpAny _ _ (if (!t.led && !es.isEmpty)=true then _ else pure ()) _ _ _
  rw [hled,if_neg (by simp)]
  refine wpAny_pure ?_
  rw [y7e cf T.up i (by rw [T.sz]; exact hi)]
  unfold jV at h
  rw [if_neg c,ycy] at h
  refine wpAny_pure ?_
  rcases ydq i es.size with q | q
  ·have e1:=ydj q
   have e2:=VL (xs:=t.place) (i:=i) (by rw [T.sz]; exact q)
   rw [e1] at h
   have e3:slF w t (i + 1)=t.place.getD i 0 + 1:=by show(if byT w=true then _ else _)=_; rw [if_neg c]
   rw [e3] at h
   rw [e1,e2]
   exact h
  ·have e1:=yft q
   rw [e1] at h
   rw [e1]
   exact h
theorem y7x{Q:Value→Shared→Prop}(ho:s.heap.get? a=some o)(hx:o.ExactSet)(hd:o.data= .set es ep t)(T:Tab (!byT w) t es.size)(hQ:Q (.ref s.heap.objs.size) {s with heap:=s.heap.push (itO 0 0 es.size ep a)}) :
  wpAny (model P w) A (pyIter (.ref a)) Q E s:=by
 have hT:s.TypeIs (.ref a) "set":=⟨o,ho,hx.1⟩
 refine wpAny_pyIter_slot hT yia (wpAny_call_entry yia hT W1 ?_ (PySem.F.args_set_iter_1 _))
 unfold Builtin.«frozenset.__iter__»
 refine wpAny_bind (wpAny_of_eq (a:=a) rfl ?_)
 unfold Builtin.Frozenset.sizeOf
 refine wpAny_bind (wpAny_bind (wpAny_setEntries_of ho hd T.fits (wpAny_pure ?_)))
 unfold setDrawn
 refine wpAny_bind (wpAny_bind (wpAny_setState_of ho hd T.fits ?_))
 dsimp only
 unfold setsByText
 refine wpAny_bind (wpAny_bind (wpAny_askSetting (wpAny_pure (wpAny_pure ?_))))
 have hdr:∀q:Bool,(q && (!t.plain && decide (es.size > 1)))=false:=fun q=>by rw [T.plain]; simp
 refine wpAny_ite_split (fun hab=>absurd (show(!_ && (!t.plain && decide (es.size > 1)))=true from hab) (by rw [hdr]; decide)) (fun _=> ?_)
 refine wpAny_bind (wpAny_pure ?_)
 refine wpAny_bind (wpAny_setEpoch_of ho hd T.fits ?_)
 exact wpAny_bind (wpAny_newObj_type (wpAny_pure ⟨_,rfl,"set_iterator",_,⟨_,Heap.get?_push_size _ rfl,rfl⟩,JZ.lookup,hQ⟩))
def StS(w:World)(a:Addr)(o:Obj)(t:SetTable)(n ep:Nat)(I:Addr)(i:Nat)(h:Heap):Prop:=h.get? I=some (itO (slF w t i) i n ep a)∧h.get? a=some o
theorem y6m(hcalm:A.handled=none)(hx:o.ExactSet)(hd:o.data= .set es ep t)(T:Tab (!byT w) t es.size)(ne:a ≠ I) :
  Walks P w A I [I,a] [I] es.size (fun i v=>∃e,(jV w a ep es)[i]? =some e∧e.2=v) (StS w a o t es.size ep I) where
 sub:=fun b hb=>by simp at hb; simp [hb]
 frame:=fun _ _ _ st hk=>⟨hk I (by simp) _ st.1,hk a (by simp) _ st.2⟩
 item:=fun i z Q E hi st hQ=>by
  obtain⟨e,he⟩:∃e,(jV w a ep es)[i]? =some e:=⟨_,yc4 (by rw [ZV]; exact hi)⟩
  have hT:z.TypeIs (.ref I) "set_iterator":=⟨_,st.1,rfl⟩
  unfold pyNext
  refine wpAny_bind (wpAny_attempt (wpAny_callSpecial?_slot (name:=Str.ofString "__next__") hT JZ (wpAny_call_entry JZ hT Z4 ?_ (Zc _))))
  unfold Builtin.«set_iterator.__next__»
  refine wpAny_bind (wpAny_of_eq (a:=(Value.ref I, [])) rfl ?_)
  refine wpAny_bind (wpAny_fieldsOf st.1 rfl ?_)
  refine wpAny_bind (wpAny_setEntries_of st.2 hd T.fits ?_)
  have e1:(((es.size:Nat):Int) != ((es.size:Nat):Int))=false:=by simp
  rw [e1,if_neg (by decide)]
  simp only [ydm]
  refine wpAny_bind (zC st.2 hd T (yed hi) ?_)
  rw [he]
  refine wpAny_bind (wpAny_setField st.1 rfl (by simp) ?_)
  have o1:(z.heap.update I (Obj.mapFields (·.setIfInBounds 0 (rawInt (slF w t (i + 1)))))).get? I=some {cls:= .type "set_iterator",data:= .fields #[.int (slF w t (i + 1)) 0, .int i 0, .ref a, .int es.size 0, .int ep 0]}:=Heap.get?_update_self _ st.1 rfl
  refine wpAny_bind (wpAny_setField o1 rfl (by simp) (wpAny_pure ⟨e.2,rfl,wpAny_pure ?_⟩))
  have o2:=Heap.get?_update_self (Obj.mapFields (·.setIfInBounds 1 (rawInt ((i:Int) + 1)))) o1 rfl
  have sb:=(Heap.SameBut.update z.heap I (Obj.mapFields (·.setIfInBounds 0 (rawInt (slF w t (i + 1)))))).trans (Heap.SameBut.update _ I (Obj.mapFields (·.setIfInBounds 1 (rawInt ((i:Int) + 1)))))
  exact hQ e.2 _ z.toks ⟨e,he,rfl⟩ ⟨o2,sb.extBut a o ne st.2⟩ fun b ob hb q=>sb.extBut b ob (fun q'=>hb (by simp [q'])) q
 done:=fun z Q E st hQ=>by
  have hT:z.TypeIs (.ref I) "set_iterator":=⟨_,st.1,rfl⟩
  unfold pyNext
  refine wpAny_bind (wpAny_attempt (wpAny_callSpecial?_slot (name:=Str.ofString "__next__") hT JZ (wpAny_call_entry JZ hT Z4 ?_ (Zc _))))
  unfold Builtin.«set_iterator.__next__»
  refine wpAny_bind (wpAny_of_eq (a:=(Value.ref I, [])) rfl ?_)
  refine wpAny_bind (wpAny_fieldsOf st.1 rfl ?_)
  refine wpAny_bind (wpAny_setEntries_of st.2 hd T.fits ?_)
  have e1:(((es.size:Nat):Int) != ((es.size:Nat):Int))=false:=by simp
  rw [e1,if_neg (by decide)]
  simp only [ydm]
  refine wpAny_bind (zC st.2 hd T (yc6 _) ?_)
  have he:(jV w a ep es)[es.size]? =none:=yd6 (by rw [ZV]; exact yc6 _)
  rw [he]
  refine wpAny_bind (wpAny_setField st.1 rfl (by simp) ?_)
  refine wpAny_bind (m:=newExc (.type "StopIteration") []) ?_
  simp only [newExc,newTuple]
  refine wpAny_bind (wpAny_newObj_type ?_ (by size_fits))
  refine wpAny_bind (m:=firstArgMember _ _) (wpAny_of_eq (a:=Value.none) (by first | rfl | (simp only [firstArgMember]; rfl)) ?_)
  refine wpAny_newObj_type ?_ (by size_fits)
  simp only [raiseNew]
  refine wpAny_bind (wpAny_handled ?_)
  rw [show A.in1.handled=none from hcalm]
  refine wpAny_bind (wpAny_pure (wpAny_throw ?_))
  refine wpAny_bind (wpAny_isInstance (T:="StopIteration") (b:=true) ⟨_,Heap.get?_push_size _ rfl,rfl⟩ isSubtype_stop ?_)
  exact wpAny_pure (hQ _ z.toks fun b ob hb q=>(((Heap.SameBut.update ..).extBut.push _).push _) b ob (fun q'=>hb (by simp [q'])) q)
 self:=fun i z Q E st hQ=>by
  have hT:z.TypeIs (.ref I) "set_iterator":=⟨_,st.1,rfl⟩
  refine wpAny_pyIter_slot hT Zl (wpAny_call_entry Zl hT z7 ?_ (WH _))
  show wpAny _ _ (ret (.ref I)) _ _ z
  exact wpAny_pure ⟨_,rfl,"set_iterator",_,hT,JZ.lookup,hQ⟩
theorem y72{r:Addr}{Q:Bool→Shared→Prop}(hT:s.TypeIs (.ref r) "set")(h:Q false s):wpAny (model P w) A (Builtin.List.listLengthHint (.ref r)) Q E s:=by
 unfold Builtin.List.listLengthHint
 refine wpAny_bind (wpAny_specialOf hT PySem.F.slot_set_len.lookup ?_)
 generalize hid:("set.__len__" :String)=idS
 wp_delta
 rw [show splitId idS=some ("set","__len__") from by subst hid; decide +kernel]
 subst hid
 refine wpAny_bind (wpAny_isInstance (T:="set") (b:=true) hT sub_set_self ?_)
 refine wpAny_ite_split (fun q=>absurd q (by decide)) (fun _=>wpAny_ite_split (fun _=> ?_) (fun q=>absurd (by decide +kernel) q))
 exact wpAny_bind (wpAny_typeOf hT (wpAny_pure h))
theorem y16(hx:o.ExactSet)(hd:o.data= .set es ep t)(T:Tab (!byT w) t es.size):PySem.W.KdlSrc P w "set" a a es.size (fun i v=>∃e,(jV w a ep es)[i]? =some e∧e.2=v) (fun h=>h.get? a=some o) where
 type:=fun _ ho=>⟨o,ho,hx.1⟩
 there:=fun _ ho=>⟨Heap.lt_size ho,Heap.lt_size ho⟩
 keep:=fun _ _ ho hk=>hk a (.inl rfl) o ho
 notList:=by decide
 notTuple:=by decide
 hint:=fun _ _ _ _ ho hq=>y72 ⟨o,ho,hx.1⟩ hq
 iter:=fun _ z hh ho=>⟨_,StS w a o t es.size ep z.heap.objs.size,(fun _ _ hq=>y7x ho hx hd T hq),y6m hh hx hd T (ycj (Heap.lt_size ho)),⟨Heap.get?_push_size _ rfl,Heap.get?_push_of_some _ ho⟩⟩
def Ma(P:Program)(w:World)(a:Addr)(ks:List Int):HO:= .ext fun h=>LL P w h a ks
end
section
variable{X:Cx}
def yat(P:Program)(w:World)(K:yc3):List V→Hp→VK→Prop:=fun xs H Q=>∃(p:Addr) (ns:List Int),xs= [.ref p]∧SqL K H p (ns.map V.int)∧ns.length≤75∧∀ks:List Int,ks.Nodup→ks.length≤ns.length→(∀x,x ∈ ks↔x ∈ ns)→∀q,H q=none→Q (.ref q) (upd H q (Ma P w q ks))
theorem Md(hc:X.calm=true):Jd X (.type "set") (yat X.prog X.w X.K):=by
 intro pins s σ H xs us Q I r h
 obtain⟨p,ns,rfl,hq,hn,q⟩:=h
 obtain⟨u,rfl,rx⟩:=jR r
 cases rx
 obtain⟨its,rv,pl,hz⟩:=I.list hq
 have hlen:=rv.length
 rw [yc2] at hlen
 refine y07 (its:=its.toArray) (I.ok.hd hc) pl.isList (by simpa using y2q rv) (by rw [yc7]; omega) fun h' tk ks a1 a2 a3 a4 a5=> ?_
 refine⟨.ref s.heap.objs.size,_,I.laid (a:=s.heap.objs.size) (o:=Ma X.prog X.w s.heap.objs.size ks) (t':=tk) a5 (yc6 _) ⟨a1, ?_, ?_⟩,rfl,q ks a2 (by rw [yc7] at a3; omega) a4 _ (I.hok.fresh (yc6 _))⟩
 ·obtain⟨o,_,_,_,ho,_⟩:=a1
  exact⟨o,ho⟩
 ·intro h1 h2 x k
  exact x.stay k
def y6v(P:Program)(w:World):List V→Hp→VK→Prop:=fun xs H Q=>∃(p:Addr) (ks:List Int),xs= [.ref p]∧H p=some (Ma P w p ks)∧ks.length < 64∧
  ∀ns':List Int,ns'.Perm ks→ns'.Pairwise (· ≤ ·)→∀l,H l=none→Q (.ref l) (upd H l (.lst (ns'.map V.int)))
theorem Q7{P:Program}{w:World}:∀{L:List (Int × Value)},ElemsOf (intKind P w) L→IntsAre (L.map (·.2)) (L.map fun e=>Zd e.2)
 | [],_=> .nil
 | e :: L,h=>by
  obtain⟨⟨k,hk,_⟩,_⟩:=h e yc8
  obtain⟨t,et⟩:=Value.isInt_shape (k:=k) (v:=e.2) hk
  have ih:=Q7 (L:=L) fun x hx=>h x (yc9 _ hx)
  show IntsAre (e.2 :: _) (Zd e.2 :: _)
  rw [et]
  exact .cons _ _ ih
theorem M7(hc:X.calm=true):Jd X (.builtin "sorted") (y6v X.prog X.w):=by
 intro pins s σ H xs us Q I r h
 obtain⟨p,ks,rfl,hp,h64,q⟩:=h
 obtain⟨u,rfl,rx⟩:=jR r
 cases rx
 obtain⟨⟨o,es,ep,t,ho,hx,hd,hel,hperm,T,hf⟩,_,_⟩:=(show yR X.prog X.w H s.heap p (Ma X.prog X.w p ks) from I.hok p _ hp)
 have hsz:es.size=ks.length:=by rw [←hperm.length_eq,yc2,ycn]
 refine Calls.call_function_entry kind_sorted plain_sorted entry_sorted (args_sorted1 _) ?_
 unfold Builtin.«sorted»
 refine wpAny_bind (m:=checkCount "sorted" 1 1 _) (wpAny_pure ?_)
 refine wpAny_bind (ygx (A:=X.A.in1) (y16 (P:=X.prog) hx hd T) (I.ok.hd hc) ho (by rw [sizeLine_eq]; omega) fun h' tk acc hk hacc=> ?_)
 have hl:acc.toList.length=es.size:=by rw [ycn]; exact hacc.1
 refine wpAny_bind (wpAny_newList ?_ (by rw [hl,sizeLine_eq]; omega))
 have I':Inv X pins σ H {s with heap:=h',toks:=tk}:=I.kept hk
 have op:=Mx X.w p ep es
 have ea:acc.toList=(jV X.w p ep es).map (·.2):=by
  refine yf7 fun j=> ?_
  rcases ydq j acc.toList.length with c | c
  ·obtain⟨e,h1,h2⟩:=hacc.2 j _ (by rw [←ycy]; exact yc4 c)
   rw [yc4 c,yca,h1]
   exact congrArg some h2.symm
  ·rw [yd6 c,yd6 (by rw [yc2,ZV]; omega)]
 have hI:IntsAre acc.toList ((jV X.w p ep es).map fun e=>Zd e.2):=by
  rw [ea]
  exact Q7 (P:=X.prog) (w:=X.w) fun e he=>hel e (op.mem_iff.mp he)
 have kp:((jV X.w p ep es).map fun e=>Zd e.2).Perm ks:=(op.map _).trans hperm
 refine wpAny_bind (wpAny_holding (wpAny_mono (Wq (A:=X.A.in1) (E:=X.xe) I' hI (by omega) fun ns' b1 b2=>q ns' (b1.trans kp) b2) (fun _ s' x=> ?_) fun _ _ e=>e))
 exact wpAny_pure ⟨_,rfl,x⟩
end
end L2
namespace L2
open PySem PySem.Spec PyProof.Rows
section
variable{P:Program}{w:World}{A:Around}{E:Value→Shared→Prop}{s:Shared}
theorem y3o:typeLookup (.type "list") "keys" =pure none:=by rw [typeLookup_type,builtinLookup_eq_fast]; kernel_rfl
theorem yaa{l:Addr}{its:Array Value}{k:Nat}{sl:Array (Option Value)}{Q:Option Value→Shared→Prop}(hx:s.heap.get? l=some {cls:= .type "list",dict:=none,data:= .seq its k,slots:=sl})(hA:A.handled=none)
  (h:∀h' tk,(∀b o,s.heap.get? b=some o→h'.get? b=some o)→Q none {s with heap:=h',toks:=tk}):wpAny (model P w) A (getAttr? (.ref l) "keys") Q E s:=by
 obtain⟨zh,zg,zd,zt,zo⟩:=s
 have hT:∀n,(⟨zh,zg,zd,n,zo⟩:Shared).TypeIs (.ref l) "list":=fun _=>⟨_,hx,rfl⟩
 have f1:=sub_AttributeError
 have f2:=yfj.lookup
 have f3:=yfj.bind (.ref l)
 have f4:=am_list_getattr_none
 unfold getAttr? getAttrBy? getAttrBy
 repeat (any_goals (first | assumption | exact hT _ | ((with_reducible show wpAny _ _ (call (Value.builtin "list.__getattribute__") _ _) _ _ _); refine call_meets yfj (hT _) am_entry_list_getattribute (PySem.F.args_list_getattribute_2 _ _) (meets_getattribute_miss_list l its k sl "keys" _ y3o (by decide +kernel)) ⟨hx,hA,fun h' tk' e hx'=> ?_⟩) | wp_step))
 obtain⟨t',u',he⟩:=hx'.there
 show wpAny _ _ (getattributeRaised _ _ _ _ _ _ _) _ _ _
 unfold getattributeRaised
 repeat (any_goals (first | assumption | wp_step))
 exact h _ _ hx'.keeps
theorem W8:entryFor table "dict.update.loop" =some Builtin.«dict.update.loop»:=entryFor_of_tree (by kernel_rfl)
theorem MP:plainId "dict.update.loop" =true:=by decide +kernel
theorem y1o{κ:Type}[DecidableEq κ](ws:List (κ × Value))(k:κ)(v:Value):(stored ws k v).length≤ws.length + 1:=by
 unfold stored
 split
 ·rw [yc2]; omega
 ·rw [ycr]; exact yc6 _
def WI(P:Program)(w:World)(h:Heap)(rs:List (Key × Value))(i:Nat)(v:Value):Prop:=∃q key val,v= .ref q∧IsTup h q #[key,val]∧∃k,rs[i]? =some (k,val)∧(yL P w).is k key=true
theorem y2o{R:Result→Shared→Prop}{I:Addr}{fp wr:List Addr}{G:Array GenState→Array GenState→Prop}{n:Nat}{Pv:Nat→Value→Prop}{St:Nat→Shared→Prop}(W:WalksS P w A.in1 I fp wr G n Pv St){S:Addr}(hSf:S ∉ fp){h₀:Heap}{rs:List (Key × Value)}
  (hval:∀i v,Pv i v→WI P w h₀ rs i v) (hb:n≤1000) (hS0:∀q its,IsTup h₀ q its→q ≠ S∧q ∉ wr):∀(m i:Nat) (z:Shared),n - i=m→i≤n→St i z→z.heap.DictOf (yL P w) S (merged [] (rs.take i))→(merged [] (rs.take i)).length≤i→
   (∀b o,b ≠ S→b ∉ wr→h₀.get? b=some o→z.heap.get? b=some o)→
   (∀z',Moved (S :: wr) G z z'→z'.heap.DictOf (yL P w) S (merged [] (rs.take n))→R (.ok (.ret .none)) z')→
   codeAny (model P w) A (.builtin "dict.update.loop" ⟨[.ref S, .ref I,rawInt i, .none], []⟩) R z:=by
 have hSw:S ∉ wr:=fun q=>hSf (W.sub _ q)
 have stay:∀{z z':Shared} {ws:List (Key × Value)},Moved wr G z z'→z.heap.DictOf (yL P w) S ws→z'.heap.DictOf (yL P w) S ws:=fun {z z' ws} mv ⟨o,es,ep,ho,r⟩=>⟨o,es,ep,mv.heap S o hSw ho,r⟩
 intro m
 induction m with
 | zero=>
  intro i z hm hi st hD hl keep hR
  have e:i=n:=by omega
  subst e
  refine codeAny_builtin W8 ?_
  rw [Around.under_plainId MP _]
  refine wpAny_bind (m:=pyNext (.ref I)) (W.done z _ _ st fun z' mv=> ?_)
  refine wpAny_bind (m:=Builtin.Dict.addKeywords S []) (wpAny_pure (wpAny_pure ?_))
  exact hR z' (mv.mono fun b hb=>yc9 _ hb) (stay mv hD)
 | succ m ih=>
  intro i z hm hi st hD hl keep hR
  have hlt:i < n:=by omega
  refine codeAny_builtin W8 ?_
  rw [Around.under_plainId MP _]
  refine wpAny_bind (m:=pyNext (.ref I)) (W.item i z _ _ hlt st fun v z' hv st' mv=> ?_)
  obtain⟨q,key,val,rfl,tp,k,hk,his⟩:=hval i v hv
  obtain⟨nq,nw⟩:=hS0 q _ tp
  obtain⟨oq,eq,cq,nn,dq⟩:=tp
  have eq':=mv.heap q oq nw (keep q oq nq nw eq)
  refine wpAny_bind (m:=holding _ _) (wpAny_holding (wpAny_bind (wpAny_tryCatch ?_)))
  unfold Builtin.Dict.pairItems
  refine wpAny_bind (wpAny_typeOf (T:="tuple") ⟨oq,eq',cq⟩ ?_)
  rw [if_pos (by decide)]
  refine wpAny_bind (wpAny_seqItems eq' dq (wpAny_pure ?_))
  show wpAny _ _ (holding [key,val] (dictSet S key val)) _ _ _
  refine wpAny_holding (wpAny_dictSet_pairs (knd:=yL P w) his (stay mv hD) (fun h' hD' sb=> ?_) (by rw [sizeLine_eq]; omega))
  have e2:merged [] (rs.take (i + 1))=stored (merged [] (rs.take i)) k val:=merged_take_succ [] rs i (k,val) hk
  refine wpAny_pure ⟨plainId_quiet MP _, ?_⟩
  have e3:rawInt ((i:Int) + 1)=rawInt ((i + 1:Nat):Int):=rfl
  refine ih (i + 1) _ (by omega) hlt (W.frame _ z' _ _ st' (yez _) fun b hb o q=> ?_) (e2 ▸ hD') ?_ (fun b o h1 h2 h3=> ?_) fun z'' mv' hD''=> ?_
  ·rw [sb.2 b fun q':b=S=>hSf (by rw [←q']; exact hb)]; exact q
  ·rw [e2]
   have:=y1o (merged [] (rs.take i)) k val
   omega
  ·rw [sb.2 b h1]
   exact mv.heap b o h2 (keep b o h1 h2 h3)
  ·refine hR z'' (Moved.trans W.gtrans ((mv.mono fun b hb=>yc9 _ hb).then_heap (yez _) fun b o hb q=> ?_) mv') hD''
   rw [sb.2 b fun q':b=S=>hb (by rw [q']; exact yc8)]; exact q
def zq:Obj:={cls:= .type "dict",data:= .dict #[]}
theorem zY{l:Addr}{its:Array Value}{nl:Nat}{sl:Array (Option Value)}{rs:List (Key × Value)}{Q:Value→Shared→Prop}(hcalm:A.handled=none)(hL:s.heap.get? l=some {cls:= .type "list",dict:=none,data:= .seq its nl,slots:=sl})
  (hp:∀(i:Nat) (v:Value),its[i]? =some v→WI P w s.heap rs i v) (hn:its.size=rs.length) (hb:rs.length≤1000)
  (h:∀(h':Heap) (tk:Nat),h'.DictOf (yL P w) s.heap.objs.size (merged [] rs)→(∀b o,s.heap.get? b=some o→h'.get? b=some o)→Q (.ref s.heap.objs.size) {s with heap:=h',toks:=tk}) :
  wpAny (model P w) A (call (.type "dict") [.ref l]) Q E s:=by
 refine callType_codes (Q₁:=fun ob z=>ob= .ref s.heap.objs.size∧z={s with heap:=s.heap.push zq}) PySem.F.kt_called_dict (PySem.F.kt_typeCall_dict_1 _) PySem.F.entry_dict_init (kt_code_dict_new _ ⟨rfl,rfl⟩) ?_
 rintro ob z ⟨rfl,rfl⟩
 have hnew:(s.heap.push zq).DictOf (yL P w) s.heap.objs.size []:=Heap.DictOf.new s.heap
 refine⟨hnew.typeIs,PySem.F.args_dict_init_2 _ _, ?_⟩
 unfold Builtin.«dict.__init__»
 refine wpAny_bind ?_
 unfold Builtin.Dict.selfAndRest
 refine wpAny_bind (wpAny_notOrdered_dict hnew.typeIs ?_)
 refine wpAny_pure ?_
 show wpAny _ _ (Builtin.Dict.updateFrom "dict.__init__" s.heap.objs.size (.ref l) [] .none) _ _ _
 unfold Builtin.Dict.updateFrom
 have hl1:(s.heap.push zq).get? l=some {cls:= .type "list",dict:=none,data:= .seq its nl,slots:=sl}:=Heap.get?_push_of_some _ hL
 refine wpAny_bind (wpAny_typeOf (T:="list") ⟨_,hl1,rfl⟩ ?_)
 rw [if_pos (by decide)]
 refine wpAny_bind (yaa hl1 (by simp [hcalm]) fun h1 tk1 k1=> ?_)
 rw [if_pos (by rfl)]
 refine wpAny_bind (wpAny_rule ?_)
 have lS:l < s.heap.objs.size:=Heap.lt_size hL
 have szS:s.heap.objs.size < h1.objs.size:=Heap.lt_size (k1 s.heap.objs.size zq (Heap.get?_push_size _ rfl))
 have hl2:h1.IsList l its:=⟨_,k1 _ _ hl1,rfl,nl,rfl⟩
 have nI:l ≠ h1.objs.size:=ycj (ye1 lS szS)
 have nS:s.heap.objs.size ∉ [h1.objs.size,l]:=by
  intro q
  rcases ycg.mp q with q | q
  ·exact absurd q (ycj szS)
  ·rw [ycb] at q
   exact absurd q (ydf lS)
 have calm2:A.in1.in1.handled=none:=by simp [hcalm]
 refine wpAny_bind (wpAny_pyIter_list hl2 ?_)
 refine wpAny_pure ⟨plainId_quiet MP _, ?_⟩
 have hnew2:∀{x:Obj},(h1.push x).DictOf (yL P w) s.heap.objs.size []:=fun {x}=>by
  obtain⟨o,es,ep,ho,r⟩:=hnew
  exact⟨o,es,ep,Heap.get?_push_of_some _ (k1 _ _ ho),r⟩
 refine y2o ((Walks.list calm2 _ l nI its).toS) nS (h₀:=s.heap) (rs:=rs) hp (by omega) (fun q its' ht=> ?_) its.size 0 _ (by omega) (yd9 _) ⟨⟨_,Heap.get?_push_size _ rfl,rfl,rfl⟩,hl2.push _⟩ hnew2 (by show 0≤0; omega)
  (fun b o _ _ q=>Heap.get?_push_of_some _ (k1 b o (Heap.get?_push_of_some _ q))) fun z' mv hD=> ?_
 ·obtain⟨o,ho,_⟩:=ht
  have:=Heap.lt_size ho
  refine⟨ycj this,fun m=> ?_⟩
  rw [ycb] at m
  exact absurd m (ycj (ye1 this szS))
 ·obtain⟨zh,zg,zd,zt,zo⟩:=z'
  have e1:zg=s.gens:=mv.gens
  have e2:zd=s.drawn:=mv.drawn
  have e3:zo=s.os:=mv.os
  subst e1
  subst e2
  subst e3
  rw [hn,yd8] at hD
  refine⟨rfl,h zh zt hD fun b o q=> ?_⟩
  have lb:=Heap.lt_size q
  refine mv.heap b o (fun m=> ?_) (Heap.get?_push_of_some _ (k1 b o (Heap.get?_push_of_some _ q)))
  rcases ycg.mp m with m | m
  ·exact absurd m (ycj lb)
  ·rw [ycb] at m
   exact absurd m (ycj (ye1 lb szS))
end
section
variable{X:Cx}
def yad:List V→Hp→VK→Prop:=fun xs H Q=>∃(p:Addr) (as:List Addr) (more:List (Key × V)),xs= [.ref p]∧H p=some (.lst (as.map V.ref))∧Paired (fun a kv=>H a=some (.tup [kV kv.1,kv.2])) as more∧more.length≤1000∧
 ∀d,H d=none→Q (.ref d) (upd H d (.dK (JV [] more)))
theorem xf{P:Program}{w:World}{H:Hp}{h:Heap}(ok:HOk P w H h):∀{as:List Addr} {more:List (Key × V)},Paired (fun a kv=>H a=some (.tup [kV kv.1,kv.2])) as more→
  ∃rs:List (Key × Value),KV more rs∧∀(i:Nat) (v:Value),(as.map Value.ref)[i]? =some v→WI P w h rs i v
 | _,_, .nil=>⟨[], .nil,fun i v q=>by simp at q⟩
 | a :: as,kv :: more, .cons e t=>by
  obtain⟨rs,r1,r2⟩:=xf ok t
  obtain⟨z,its,r,tp⟩:=(show yR P w H h a (.tup [kV kv.1,kv.2]) from ok a _ e)
  obtain⟨u1,u2,rfl,q1,q2⟩:=MT r
  refine⟨(kv.1,u2) :: rs, .cons ⟨rfl,q2⟩ r1,fun i v q=> ?_⟩
  cases i with
  | zero=>
   have:v=Value.ref a:=by simpa using q.symm
   exact⟨a,u1,u2,this,tp,kv.1,rfl,Lv q1⟩
  | succ i=>
   obtain⟨q,key,val,e1,e2,k,e3,e4⟩:=r2 i v (by simpa using q)
   exact⟨q,key,val,e1,e2,k,by simpa using e3,e4⟩
theorem Qz:∀{as:List Addr} {its:List Value},yz (as.map V.ref) its→its=as.map Value.ref
 | [],_, .nil=>rfl
 | a :: as,_, .cons e t=>by
  cases e
  rw [Qz t]; rfl
theorem xp:∀(more acc:List (Key × V)),(JV acc more).length≤acc.length + more.length
 | [],acc=>yc6 _
 | kv :: more,acc=>by
  show(JV (J2 acc kv.1 kv.2) more).length≤_
  have h1:=xp more (J2 acc kv.1 kv.2)
  have h2:=VX acc kv.1 kv.2
  rw [yct]
  omega
theorem zQ(hc:X.calm=true):Jd X (.type "dict") yad:=by
 intro pins s σ H xs us Q I r h
 obtain⟨p,as,more,rfl,hp,ht,hn,q⟩:=h
 obtain⟨u,rfl,rx⟩:=jR r
 cases rx
 obtain⟨z,its,n,rv,e⟩:=(show yR X.prog X.w H s.heap p (.lst (as.map V.ref)) from I.hok p _ hp)
 have er:=Qz rv
 subst er
 obtain⟨rs,r1,r2⟩:=xf I.hok ht
 have l1:=r1.length
 have l2:=Paired.length ht
 refine zY (P:=X.prog) (w:=X.w) (I.ok.hd hc) e (rs:=rs) (fun i v hv=>r2 i v (by simpa using hv)) (by rw [yc7,yc2]; omega) (by omega) fun h' tk hD hk=> ?_
 refine⟨.ref s.heap.objs.size,_,I.laid (a:=s.heap.objs.size) (o:= .dK (JV [] more)) (t':=tk) hk (yc6 _) ⟨?_, ?_,merged [] rs,r1.merge .nil,hD⟩,rfl,q _ (I.hok.fresh (yc6 _))⟩
 ·have:=xp more []
  rw [sizeLine_eq]
  simp at this
  omega
 ·exact beq_eq_false_iff_ne.mpr (Ne.symm (ycj I.big))
end
end L2
namespace STab
open PySem
def pth(t:SetTable)(h:Int)(k:Nat):Nat:=(adv t k (t.probeStart h)).j
theorem Ji{p:Nat→Prop}:∀(B:Nat),(∃k,k < B∧p k)→∃K,K < B∧p K∧∀k,k < K→¬p k
 | 0,⟨k,hk,_⟩=>absurd hk (yee _)
 | B + 1,⟨k,hk,hp⟩=>by
  by_cases c:∃k,k < B∧p k
  ·obtain⟨K,h1,h2,h3⟩:=Ji B c
   exact⟨K,ydi h1,h2,h3⟩
  ·have:k=B:=by
    rcases ydq k B with q | q
    ·exact absurd ⟨k,q,hp⟩ c
    ·omega
   subst this
   exact⟨k,hk,hp,fun k' hk' q=>c ⟨k',hk',q⟩⟩
theorem MK(t:SetTable)(k:Nat)(p:SetTable.Probe):adv t (k + 1) p=t.advance (adv t k p):=Mk t k 1 p
theorem QB{t:SetTable}{h:Int}:∀k,(adv t k (t.probeStart h)).dummy=none∧(adv t k (t.probeStart h)).j + (adv t k (t.probeStart h)).more≤t.mask
 | 0=>by
  have hi:SetTable.bits h % (t.mask + 1)≤t.mask:=ydr (yf1 _ (yei _))
  have r:=Vp hi
  exact⟨rfl,by show SetTable.bits h % (t.mask + 1) + (SetTable.runEnd t.mask (SetTable.bits h % (t.mask + 1)) - SetTable.bits h % (t.mask + 1))≤t.mask; omega⟩
 | k + 1=>by
  rw [MK]
  exact⟨xO (QB k).1,y4p (QB k).2⟩
theorem y5a{t:SetTable}{h:Int}(k:Nat):pth t h k≤t.mask:=by
 have:=(QB (t:=t) (h:=h) k).2
 unfold pth
 omega
structure Stops (t:SetTable) (h:Int) (K:Nat):Prop where
 lt:K < 10 * SetTable.turns t.mask
 out:¬In t.place (pth t h K)
 live:∀k,k < K→In t.place (pth t h k)
theorem y9k{t:SetTable}{h:Int}{b:Bool}{n:Nat}(T:Tab b t n):∃K,Stops t h K:=by
 obtain⟨y,hy,hn⟩:=gap T.up (mask:=t.mask) (by rw [T.sz]; exact T.room)
 have hi:SetTable.bits h % (t.mask + 1)≤t.mask:=ydr (yf1 _ (yei _))
 have a0:At t (t.probeStart h) (SetTable.bits h % (t.mask + 1),SetTable.bits h):=⟨rfl,rfl,rfl,rfl,rfl⟩
 obtain⟨m,hm1,e⟩:=MH T.m3 (x:=(SetTable.bits h % (t.mask + 1),SetTable.bits h)) hi (ZO h) hy
 obtain⟨k,hk,a⟩:=Zr m _ _ a0 hi
 obtain⟨K,h1,h2,h3⟩:=Ji (p:=fun k=>¬In t.place (pth t h k)) (10 * SetTable.turns t.mask) ⟨k,by unfold SetTable.turns; omega,by show ¬In t.place (adv t k (t.probeStart h)).j; rw [a.j,e]; exact hn⟩
 exact⟨K,h1,h2,fun k hk=>Classical.byContradiction fun q=>h3 k hk q⟩
theorem qo{t:SetTable}{h:Int}{g:Nat→Int}{K:Nat}(hd:t.dummies=#[])(hr:Up t.place)(N:Stops t h K):∀(n k fuel:Nat),K - k=n→k≤K→n < fuel→
  (∃k1 i,k≤k1∧k1 < K∧t.place[i]? =some (pth t h k1)∧g i=h∧(∀k2,k≤k2→k2 < k1→∀i2,t.place[i2]? =some (pth t h k2)→g i2 ≠ h)∧SetTable.probe.go t g h fuel (adv t k (t.probeStart h))=some (.candidate (pth t h k1) i (adv t (k1 + 1) (t.probeStart h))))∨
  ((∀k2,k≤k2→k2 < K→∀i2,t.place[i2]? =some (pth t h k2)→g i2 ≠ h)∧SetTable.probe.go t g h fuel (adv t k (t.probeStart h))=some (.empty (pth t h K) none))
 | 0,k,fuel,hn,hk,hf=>by
  have e:k=K:=by omega
  subst e
  obtain⟨f,rfl⟩:∃f,fuel=f + 1:=⟨fuel - 1,by omega⟩
  refine .inr ⟨fun k2 h1 h2=>absurd h2 (by omega), ?_⟩
  unfold SetTable.probe.go
  rw [Wd hd (show ¬In t.place (adv t k (t.probeStart h)).j from N.out)]
  dsimp only
  rw [(QB k).1]; rfl
 | n + 1,k,fuel,hn,hk,hf=>by
  obtain⟨f,rfl⟩:∃f,fuel=f + 1:=⟨fuel - 1,by omega⟩
  have hlt:k < K:=by omega
  obtain⟨i,hi⟩:=N.live k hlt
  have hi':t.place[i]? =some (adv t k (t.probeStart h)).j:=hi
  unfold SetTable.probe.go
  rw [qE hr hi']
  dsimp only
  by_cases c:g i=h
  ·rw [c,beq_self_eq_true,if_pos rfl]
   refine .inl ⟨k,i,yc6 _,hlt,hi,c,fun k2 h1 h2=>absurd h2 (by omega), ?_⟩
   rw [MK]; rfl
  ·have cb:(g i == h)=false:=by rw [beq_eq_false_iff_ne]; exact c
   rw [cb,if_neg (by decide),←MK]
   have own:∀i2,t.place[i2]? =some (pth t h k)→g i2 ≠ h:=fun i2 q=>by rw [Wv hr q hi]; exact c
   rcases qo (g:=g) hd hr N n (k + 1) f (by omega) hlt (by omega) with⟨k1,i1,h1,h2,h3,h4,h5,h6⟩ | ⟨h5,h6⟩
   ·refine .inl ⟨k1,i1,by omega,h2,h3,h4,fun k2 a1 a2 i2 q=> ?_,h6⟩
    rcases ydq k k2 with e | e
    ·exact h5 k2 e a2 i2 q
    ·have:k2=k:=by omega
     subst this; exact own i2 q
   ·refine .inr ⟨fun k2 a1 a2 i2 q=> ?_,h6⟩
    rcases ydq k k2 with e | e
    ·exact h5 k2 e a2 i2 q
    ·have:k2=k:=by omega
     subst this; exact own i2 q
def Rea(t:SetTable)(hs:Nat→Option Int):Prop:=∀i h,hs i=some h→∃k,t.place[i]? =some (pth t h k)∧∀k',k' < k→In t.place (pth t h k')
theorem Rea.before{t:SetTable}{hs:Nat→Option Int}(R:Rea t hs){h:Int}{K i:Nat}(N:Stops t h K)(hi:hs i=some h):∃k,k < K∧t.place[i]? =some (pth t h k):=by
 obtain⟨k,h1,h2⟩:=R i h hi
 refine⟨k, ?_,h1⟩
 rcases ydq k K with c | c
 ·exact c
 ·rcases ydq K k with d | d
  ·exact absurd (h2 K d) N.out
  ·have:k=K:=by omega
   subst this
   exact absurd ⟨i,h1⟩ N.out
theorem y6b{t u:SetTable}(e:t.mask=u.mask)(p:SetTable.Probe):t.advance p=u.advance p:=by
 unfold SetTable.advance
 rw [e]
theorem xM{t u:SetTable}(e:t.mask=u.mask):∀(k:Nat) (p:SetTable.Probe),adv t k p=adv u k p
 | 0,p=>rfl
 | k + 1,p=>by
  show adv t k (t.advance p)=adv u k (u.advance p)
  rw [y6b e,xM e k]
theorem VH{t u:SetTable}(e:t.mask=u.mask)(h:Int)(k:Nat):pth t h k=pth u h k:=by
 unfold pth
 rw [xM e]
 congr 2
 unfold SetTable.probeStart
 rw [e]
theorem y3l{t:SetTable}{j y:Nat}(hr:Up t.place)(h:In t.place y∨y=j):In (t.put j).1.place y:=by
 have hb:=jU (j:=j) hr
 have e:(t.put j).1.place=SetTable.insertAt t.place (SetTable.below t.place j) j:=rfl
 rw [e]
 rcases h with⟨i,hi⟩ | h
 ·rcases ydq i (SetTable.below t.place j) with c | c
  ·exact⟨i,by rw [YN _ hb.1,if_pos c]; exact hi⟩
  ·exact⟨i + 1,by rw [YN _ hb.1,if_neg (by omega),if_neg (by omega)]; exact hi⟩
 ·subst h
  exact⟨SetTable.below t.place y,by rw [YN _ hb.1,if_neg (yd3 _),if_pos rfl]⟩
theorem Rea.put{t:SetTable}{es:Array (Int × Value)}{b:Bool}{n K:Nat}{h:Int}{x:Value}(T:Tab b t n)(hes:es.size=n)(R:Rea t fun i=>(es[i]?).map (·.1))(N:Stops t h K) :
  Rea (t.put (pth t h K)).1 fun i=>((SetTable.insertAt es (t.put (pth t h K)).2 (h,x))[i]?).map (·.1):=by
 have hb:=jU (j:=pth t h K) T.up
 have hbn:SetTable.below t.place (pth t h K)≤es.size:=by rw [hes,←T.sz]; exact hb.1
 have em:(t.put (pth t h K)).1.mask=t.mask:=rfl
 have e2:(t.put (pth t h K)).2=SetTable.below t.place (pth t h K):=rfl
 have ep:(t.put (pth t h K)).1.place=SetTable.insertAt t.place (SetTable.below t.place (pth t h K)) (pth t h K):=rfl
 intro i h' hi
 have hi1:((SetTable.insertAt es (SetTable.below t.place (pth t h K)) (h,x))[i]?).map (·.1)=some h':=hi
 rw [YN _ hbn] at hi1
 have old:∀i':Nat,((es[i']?).map (fun e=>e.1))=some h'→(SetTable.insertAt t.place (SetTable.below t.place (pth t h K)) (pth t h K))[i]? =t.place[i']?→∃k,(t.put (pth t h K)).1.place[i]? =some (pth (t.put (pth t h K)).1 h' k)∧∀k',k' < k→In (t.put (pth t h K)).1.place (pth (t.put (pth t h K)).1 h' k'):=fun i' q1 q2=>by
  obtain⟨k,a1,a2⟩:=R i' h' q1
  refine⟨k, ?_,fun k' hk'=> ?_⟩
  ·rw [ep,q2,a1,VH em]
  ·rw [VH em]
   exact y3l T.up (.inl (a2 k' hk'))
 by_cases c:i < SetTable.below t.place (pth t h K)
 ·rw [if_pos c] at hi1
  exact old i hi1 (by rw [YN _ hb.1,if_pos c])
 ·rw [if_neg c] at hi1
  by_cases d:i=SetTable.below t.place (pth t h K)
  ·rw [if_pos d] at hi1
   have eh:h'=h:=(Option.some.inj hi1).symm
   subst eh
   refine⟨K, ?_,fun k' hk'=> ?_⟩
   ·rw [ep,YN _ hb.1,if_neg c,if_pos d,VH em]
   ·rw [VH em]
    exact y3l T.up (.inl (N.live k' hk'))
  ·rw [if_neg d] at hi1
   exact old (i - 1) hi1 (by rw [YN _ hb.1,if_neg c,if_neg d])
end STab
namespace STab
open PySem
theorem Lm{t:SetTable}:∀(k:Nat) (p:SetTable.Probe),k≤p.more→adv t k p={p with j:=p.j + k,more:=p.more - k}
 | 0,p,_=>by simp [adv]
 | k + 1,p,h=>by
  rw [MK,Lm k p (by omega)]
  unfold SetTable.advance
  rw [if_pos (by show p.more - k > 0; omega)]
  show({p with j:=p.j + k + 1,more:=p.more - k - 1}:SetTable.Probe)={p with j:=p.j + (k + 1),more:=p.more - (k + 1)}
  congr 1 <;> omega
theorem xP{t:SetTable}{owner:Array (Option Nat)}(hs:owner.size=t.mask + 1):∀(fuel i pert j:Nat) (p:SetTable.Probe),At t p (i,pert)→i≤t.mask→SetTable.layClean.free t.mask owner fuel i pert=some j→
  ∃n,(adv t n p).j=j∧∀n',n' < n→(owner.getD (adv t n' p).j none).isSome=true
 | 0,i,pert,j,p,_,_,e=>by cases e
 | fuel + 1,i,pert,j,p,a,hi,e=>by
  have r:=Vp hi
  have hm:p.more=SetTable.runEnd t.mask i - i:=a.more
  have hj:p.j=i:=a.j
  unfold SetTable.layClean.free at e
  cases hf:(ycd (SetTable.runEnd t.mask i + 1 - i)).find? fun k=>(owner.getD (i + k) (some 0)).isNone with
  | some k=>
   rw [hf] at e
   have e':i + k=j:=Option.some.inj e
   have h2:=ycs.mp (yh8 hf)
   refine⟨k,by rw [Lm k p (by omega)]; show p.j + k=j; omega,fun n' hn'=> ?_⟩
   rw [Lm n' p (by omega)]
   show(owner.getD (p.j + n') none).isSome=true
   rw [hj]
   obtain⟨_,as,bs,hsplit,hall⟩:=List.find?_eq_some_iff_append.mp hf
   have hmem:n' ∈ as:=by
    have hlen:as.length=k:=by
     have h3:(ycd (SetTable.runEnd t.mask i + 1 - i))[as.length]? =some k:=by rw [hsplit,ydz (yc6 _),ygu]; rfl
     have h4:=(yc5.mp h3)
     obtain⟨h5,h6⟩:=h4
     rw [List.getElem_range] at h6
     exact h6
    have h3:(ycd (SetTable.runEnd t.mask i + 1 - i))[n']? =some n':=by rw [ydu (by omega)]
    rw [hsplit,ycu (by omega)] at h3
    exact yce h3
   have h4:=hall n' hmem
   rw [Z0 (by omega)] at h4
   cases q:owner.getD (i + n') none with
   | some v=>rfl
   | none=>rw [q] at h4; simp at h4
  | none=>
   rw [hf] at e
   have own:∀k,k≤p.more→(owner.getD (i + k) none).isSome=true:=fun k hk=>by
    have h1:=yh0.mp hf k (ycs.mpr (by omega))
    rw [Z0 (by omega)] at h1
    cases q:owner.getD (i + k) none with
    | some v=>rfl
    | none=>rw [q] at h1; simp at h1
   have q:=qr (t:=t) p.more p rfl a.dm
   rw [a.i,a.pert] at q
   obtain⟨n,h1,h2⟩:=xP hs fuel _ _ j _ q (ydr (yf1 _ (yei _))) e
   refine⟨p.more + 1 + n,by rw [Mk]; exact h1,fun n' hn'=> ?_⟩
   rcases ydq n' (p.more + 1) with c | c
   ·rw [Lm n' p (by omega)]
    show(owner.getD (p.j + n') none).isSome=true
    rw [hj]
    exact own n' (by omega)
   ·obtain⟨m,rfl⟩:∃m,n'=p.more + 1 + m:=⟨n' - (p.more + 1),by omega⟩
    rw [Mk]
    exact h2 m (by omega)
def qu(t:SetTable)(owner:Array (Option Nat))(hs:List Int):Prop:=∀j m,owner.getD j none=some m→∃h,hs[m]? =some h∧∃n,pth t h n=j∧∀n',n' < n→(owner.getD (pth t h n') none).isSome=true
theorem y5n{t:SetTable}(hm:M3 t.mask){owner:Array (Option Nat)}{done:List Int}(o:Own t.mask owner done.length)(O:qu t owner done)(hk:done.length≤t.mask)(h:Int) :
  ∃owner',VU t.mask (some (owner,done.length)) h=some (owner',done.length + 1)∧Own t.mask owner' (done.length + 1)∧qu t owner' (done ++ [h]):=by
 obtain⟨y,hy,hn⟩:=o.gap hk
 have hi:SetTable.bits h % (t.mask + 1)≤t.mask:=ydr (yf1 _ (yei _))
 obtain⟨m,hm1,e⟩:=MH hm (x:=(SetTable.bits h % (t.mask + 1),SetTable.bits h)) hi (ZO h) hy
 obtain⟨j,e1,e2,e3⟩:=qC o.1 (SetTable.turns t.mask) (SetTable.bits h % (t.mask + 1)) (SetTable.bits h) hi ⟨m,by unfold SetTable.turns; omega,by rw [e]; exact hn⟩
 obtain⟨n,p1,p2⟩:=xP o.1 _ _ _ j (t.probeStart h) ⟨rfl,rfl,rfl,rfl,rfl⟩ hi e1
 have hjs:j < owner.size:=by rw [o.1]; omega
 have up:∀y,(owner.getD y none).isSome=true→((owner.setIfInBounds j (some done.length)).getD y none).isSome=true:=fun y q=>by
  rw [LE hjs]
  split
  ·rfl
  ·exact q
 refine⟨owner.setIfInBounds j (some done.length), ?_,o.set e2 e3,fun j' m' q=> ?_⟩
 ·unfold VU
  simp only [yg5,yfe,e1]
  rfl
 ·rw [LE hjs] at q
  by_cases c:j'=j
  ·rw [if_pos c] at q
   have:m'=done.length:=(Option.some.inj q).symm
   subst this
   refine⟨h,by rw [ydz (yc6 _),ygu]; rfl,n,by rw [c]; exact p1,fun n' hn'=>up _ (p2 n' hn')⟩
  ·rw [if_neg c] at q
   obtain⟨h',a1,n2,a2,a3⟩:=O j' m' q
   exact⟨h',by rw [ycu (yc5.mp a1).1]; exact a1,n2,a2,fun n' hn'=>up _ (a3 n' hn')⟩
theorem xt{t:SetTable}(hm:M3 t.mask):∀(hs done:List Int) (owner:Array (Option Nat)),Own t.mask owner done.length→qu t owner done→done.length + hs.length≤t.mask→
  ∃owner',hs.foldl (VU t.mask) (some (owner,done.length))=some (owner',done.length + hs.length)∧Own t.mask owner' (done.length + hs.length)∧qu t owner' (done ++ hs)
 | [],done,owner,o,O,_=>⟨owner,rfl,o,by rw [ye0]; exact O⟩
 | h :: hs,done,owner,o,O,hk=>by
  rw [yct] at hk
  obtain⟨o1,e1,O1,P1⟩:=y5n hm o O (by omega) h
  have hl:(done ++ [h]).length=done.length + 1:=by rw [ycr,yd5]
  obtain⟨o2,e2,O2,P2⟩:=xt hm hs (done ++ [h]) o1 (by rw [hl]; exact O1) P1 (by rw [hl]; omega)
  rw [hl] at e2 O2
  rw [yek] at P2
  refine⟨o2, ?_, ?_,P2⟩
  ·rw [yfo,e1,e2,yct]
   congr 2; omega
  ·rw [yct,show done.length + (hs.length + 1)=done.length + 1 + hs.length by omega]; exact O2
theorem y1v{t:SetTable}(hm:M3 t.mask)(hs:Array Int)(hk:hs.size≤t.mask):∃owner,SetTable.layClean t.mask hs=some owner∧Own t.mask owner hs.size∧qu t owner hs.toList:=by
 have P0:qu t (yf5 (t.mask + 1) none) []:=fun j m q=>by
  rw [ydn,yhh] at q
  split at q <;> cases q
 obtain⟨o,e,O,Pp⟩:=xt hm hs.toList [] _ (own0 t.mask) P0 (by rw [ycn]; show 0 + hs.size≤t.mask; omega)
 have e0:hs.toList.length=hs.size:=ycn ..
 rw [e0] at e O
 have z:([]:List Int).length + hs.size=hs.size:=yfi _
 rw [z] at e O
 refine⟨o, ?_,O,Pp⟩
 unfold SetTable.layClean
 rw [←yiu]
 have e':hs.toList.foldl (VU t.mask) (some (yf5 (t.mask + 1) none,0))=some (o,hs.size):=e
 show(Option.map (·.1) (hs.toList.foldl (VU t.mask) (some (yf5 (t.mask + 1) none,0))))=some o
 rw [e']; rfl
theorem Wt{α β:Type}{f:α→Option β}:∀{l:List α},(∀x ∈ l,(f x).isSome)→∀m:Nat,(l.filterMap f)[m]? =(l[m]?).bind f
 | [],_,m=>by simp
 | a :: l,h,m=>by
  obtain⟨y,hy⟩:=yg6.mp (h a yc8)
  rw [yg7 hy]
  cases m with
  | zero=>simp [hy]
  | succ m=>
   rw [yew,yew]
   exact Wt (fun x hx=>h x (yc9 _ hx)) m
theorem y1p{b:Bool}{t:SetTable}{n:Nat}{es:Array (Int × Value)}(T:Tab b t n)(hes:es.size=n)(wanted:Nat)(hm:M3 (SetTable.sizeAbove wanted - 1))(hn:n≤SetTable.sizeAbove wanted - 1) :
  ∃t' order,t.relaid (es.map (·.1)) wanted=some (t',order)∧Tab b t' n∧t'.mask=SetTable.sizeAbove wanted - 1∧(order.filterMap (es[·]?)).size=n∧(order.filterMap (es[·]?)).toList.Perm es.toList∧
   Rea t' fun i=>((order.filterMap (es[·]?))[i]?).map (·.1):=by
 obtain⟨u,hu⟩:∃u:SetTable,u.mask=SetTable.sizeAbove wanted - 1:=⟨{t with mask:=SetTable.sizeAbove wanted - 1},rfl⟩
 rw [←hu] at hm hn ⊢
 obtain⟨owner,e,O,Pp⟩:=y1v (t:=u) hm (es.map (·.1)) (by rw [ygy,hes]; exact hn)
 rw [ygy,hes] at O
 have e1:t.relaid (es.map (·.1)) wanted=some ({mask:=u.mask,place:=(((ycd (u.mask + 1)).filterMap fun j=>(owner.getD j none).map (j, ·)).map (·.1)).toArray,dummies:=#[],finger:=t.finger,led:=t.led,moves:=t.movedTo u.mask,plain:=t.plain},
   (((ycd (u.mask + 1)).filterMap fun j=>(owner.getD j none).map (j, ·)).map (·.2)).toArray):=by
  unfold SetTable.relaid SetTable.laid
  rw [←hu]
  simp only [yg5,e,yfe]
  rfl
 have hp:(((ycd (u.mask + 1)).filterMap fun j=>(owner.getD j none).map (j, ·)).map (·.2)).Perm (ycd n):=by rw [MB]; exact O.2
 have hlen:((ycd (u.mask + 1)).filterMap fun j=>(owner.getD j none).map (j, ·)).length=n:=by
  have:=hp.length_eq
  rwa [yc2,yd2] at this
 have inb:∀y ∈ (((ycd (u.mask + 1)).filterMap fun j=>(owner.getD j none).map (j, ·)).map (·.2)),(es[y]?).isSome:=fun y hy=>by
  have hy':=ycs.mp (hp.mem_iff.mp hy)
  rw [ydj (by omega)]; rfl
 have hfm:((((ycd (u.mask + 1)).filterMap fun j=>(owner.getD j none).map (j, ·)).map (·.2)).toArray.filterMap (es[·]?)).size=n:=by
  rw [←ycn,yfr,qh inb,yc2]
  exact hlen
 have perm:((((ycd (u.mask + 1)).filterMap fun j=>(owner.getD j none).map (j, ·)).map (·.2)).toArray.filterMap (es[·]?)).toList.Perm es.toList:=by
  rw [yfr]
  refine(yey.filterMap _ hp).trans ?_
  have e2:(ycd n).filterMap (es[·]?)=es.toList:=by
   refine yf7 fun m=> ?_
   rw [Wt (fun x hx=>by rw [ydj (by have:=ycs.mp hx; omega)]; rfl),←hes]
   rcases ydq m es.size with c | c
   ·rw [ydu c,ycy]; rfl
   ·rw [yd6 (by rw [yd2]; exact c),yd6 (by rw [ycn]; exact c)]; rfl
  rw [e2]
 refine⟨_,_,e1,⟨rfl, ?_,fun j ⟨i,hi⟩=> ?_, ?_,hm,hn,T.plain,T.led⟩,rfl,hfm,perm,fun i h hi=> ?_⟩
 ·show Up _
  rw [V4]
  exact Mg (yep.filter _ yfp)
 ·have hi':(((ycd (u.mask + 1)).filterMap fun j=>(owner.getD j none).map (j, ·)).map (·.1)).toArray[i]? =some j:=hi
  rw [V4,yef] at hi'
  have:=(yd0.mp (yce hi')).1
  show j≤u.mask
  exact ydr (ycs.mp this)
 ·show Array.size _=n
  rw [yc7,yc2]; exact hlen
 ·have hi':((((((ycd (u.mask + 1)).filterMap fun j=>(owner.getD j none).map (j, ·)).map (·.2)).toArray.filterMap (es[·]?)))[i]?).map (·.1)=some h:=hi
  rw [←ycy,yfr,Wt inb,yca] at hi'
  cases q:((ycd (u.mask + 1)).filterMap fun j=>(owner.getD j none).map (j, ·))[i]? with
  | none=>rw [q] at hi'; cases hi'
  | some jm=>
   rw [q] at hi'
   obtain⟨j,m⟩:=jm
   have hm':(es[m]?).map (·.1)=some h:=hi'
   have hmem:=yfk.mp (yce q)
   obtain⟨j2,hj2,ej⟩:=hmem
   have ow:owner.getD j none=some m:=by
    cases q2:owner.getD j2 none with
    | none=>rw [q2] at ej; cases ej
    | some v=>
     rw [q2] at ej
     have:=Option.some.inj ej
     cases this
     exact q2
   obtain⟨h',a1,k,a2,a3⟩:=Pp j m ow
   have eh:h'=h:=by
    rw [ycy,Array.getElem?_map] at a1
    have:some h'=some h:=a1.symm.trans hm'
    exact Option.some.inj this
   subst eh
   refine⟨k, ?_,fun k' hk'=> ?_⟩
   ·show(((ycd (u.mask + 1)).filterMap fun j=>(owner.getD j none).map (j, ·)).map (·.1)).toArray[i]? =_
    rw [yef,yca,q]
    show some j=some (pth _ h' k)
    rw [←a2]
    refine congrArg some (VH (t:=u) ?_ h' k)
    rfl
   ·have s:=a3 k' hk'
    have le:=y5a (t:=u) (h:=h') k'
    have em:=VH (t:={mask:=u.mask,place:=(((ycd (u.mask + 1)).filterMap fun j=>(owner.getD j none).map (j, ·)).map (·.1)).toArray,dummies:=#[],finger:=t.finger,led:=t.led,moves:=t.movedTo u.mask,plain:=t.plain}) (u:=u) rfl h' k'
    rw [em]
    have mem:pth u h' k' ∈ (ycd (u.mask + 1)).filter fun j=>(owner.getD j none).isSome:=yd0.mpr ⟨ycs.mpr (by omega),s⟩
    obtain⟨i2,hi2⟩:=yd1.mp mem
    refine⟨i2, ?_⟩
    show(((ycd (u.mask + 1)).filterMap fun j=>(owner.getD j none).map (j, ·)).map (·.1)).toArray[i2]? =_
    rw [V4,yef]
    exact hi2
end STab
namespace L2
open PySem PySem.Spec PyProof.Rows STab
abbrev TK(P:Program)(w:World):HeapKind P w (List Int):=tupleKind (intKind P w)
section
variable{P:Program}{w:World}{A:Around}{E:Value→Shared→Prop}{s:Shared}
theorem items_int{ks:List Int}{vs:List Value}(h:ItemsAre (intKind P w) ks vs):∀v ∈ vs,∃k t,v= .int k t:=by
 induction h with
 | nil=>intro v hv; cases hv
 | cons h1 _ ih=>
  intro v hv
  rcases ycg.mp hv with e | hv
  ·rw [e]
   obtain⟨t,et⟩:=Value.isInt_shape h1
   exact⟨_,t,et⟩
  ·exact ih v hv
theorem y3w{k:List Int}{q:Addr}{Q:Bool→Shared→Prop}(h:(TK P w).is s.heap k q)(hq:Q false s):wpAny (model P w) A (ofAClassStatement 8 (.ref q)) Q E s:=by
 obtain⟨o,its,n,ho,hc,hd,hi⟩:=h
 have allI:=items_int hi
 unfold ofAClassStatement
 refine wpAny_bind (wpAny_typeOf (T:="tuple") ⟨o,ho,hc⟩ ?_)
 dsimp only
 rw [if_pos (by decide)]
 refine wpAny_bind (wpAny_pure ?_)
 rw [if_neg (by decide)]
 refine wpAny_bind (wpAny_seqItems ho hd ?_)
 dsimp only
 rw [←yfm]
 generalize its.toList=l at allI
 clear hi
 refine wpAny_bind ?_
 induction l with
 | nil=>
  rw [yfx]
  exact wpAny_pure (wpAny_pure hq)
 | cons v l ih=>
  obtain⟨z,u,rfl⟩:=allI v yc8
  rw [yf4]
  refine wpAny_bind (wpAny_bind (wpAny_of_eq (a:=false) rfl ?_))
  rw [if_neg (by decide)]
  exact wpAny_pure (ih fun v hv=>allI v (yc9 _ hv))
theorem y8s{kx:List Int}{qx:Addr}{Q:Bool→Shared→Prop}(hx:(TK P w).is s.heap kx qx)(ys:List Value)(hy:∀y ∈ ys,∃k q,y= .ref q∧(TK P w).is s.heap k q)(hq:Q false s):wpAny (model P w) A (searchCouldBeSeen (.ref qx) ys) Q E s:=by
 unfold searchCouldBeSeen
 refine wpAny_bind ?_
 induction ys with
 | nil=>
  rw [yfx]
  exact wpAny_pure (wpAny_pure hq)
 | cons v l ih=>
  obtain⟨k,q,rfl,hk⟩:=hy v yc8
  have go:=ih fun v hv=>hy v (yc9 _ hv)
  rw [yf4]
  refine wpAny_bind ?_
  refine wpAny_ite_split (fun _=>wpAny_pure go) (fun _=> ?_)
  refine wpAny_bind ((TK P w).quiet hx ?_)
  rw [if_neg (by decide)]
  refine wpAny_bind ((TK P w).quiet hk ?_)
  rw [if_neg (by decide)]
  refine wpAny_bind (y3w hx ?_)
  rw [if_neg (by decide)]
  refine wpAny_bind (y3w hk ?_)
  rw [if_neg (by decide)]
  exact wpAny_pure go
def Ent(P:Program)(w:World)(h:Heap)(es:Array (Int × Value)):Prop:=∀e ∈ es.toList,∃k q,e=((TK P w).hash k,Value.ref q)∧(TK P w).is h k q
def Has(P:Program)(w:World)(h:Heap)(es:Array (Int × Value))(kx:List Int):Prop:=∃q,((TK P w).hash kx,Value.ref q) ∈ es.toList∧(TK P w).is h kx q
theorem y9q{h:Heap}{es:Array (Int × Value)}(hE:Ent P w h es){i:Nat}{e:Int × Value}(he:es[i]? =some e):∃k q,e=((TK P w).hash k,Value.ref q)∧(TK P w).is h k q:=
 hE e (yce (i:=i) (by rw [ycy]; exact he))
theorem WU{a:Addr}{o:Obj}{es:Array (Int × Value)}{ep:Nat}{t:SetTable}{b:Bool}{kx:List Int}{qx:Addr}{adding:Bool}{K:Nat}{Q:SetFound→Shared→Prop}(ho:s.heap.get? a=some o)(hd:o.data= .set es ep t)(T:Tab b t es.size)
  (R:Rea t fun i=>(es[i]?).map (·.1)) (hE:Ent P w s.heap es) (hx:(TK P w).is s.heap kx qx) (room:(TK P w).room A) (N:Stops t ((TK P w).hash kx) K)
  (there:Has P w s.heap es kx→∀r,(adding=false→r.isSome=true)→Q (.there r) s) (free:¬Has P w s.heap es kx→Q (.free (pth t ((TK P w).hash kx) K) false) s) :
  ∀(n k fuel:Nat) (st:Option SetTable.Probe),K - k=n→k≤K→n < fuel→st.getD (t.probeStart ((TK P w).hash kx))=adv t k (t.probeStart ((TK P w).hash kx))→
   (Has P w s.heap es kx→∃(k0 i0:Nat) (q0:Addr),k≤k0∧k0 < K∧t.place[i0]? =some (pth t ((TK P w).hash kx) k0)∧es[i0]? =some ((TK P w).hash kx,Value.ref q0)∧(TK P w).is s.heap kx q0)→
   wpAny (model P w) A (setSearchFrom a (.ref qx) ((TK P w).hash kx) adding fuel st) Q E s:=by
 have odd:t.gaveWay=false:=by
  unfold SetTable.gaveWay
  rcases T.m3 with e | e | e <;> rw [e] <;> rfl
 intro n
 induction n using ygs with
 | ind n ih=>
  intro k fuel st hn hk hf hst hp
  obtain⟨f,rfl⟩:∃f,fuel=f + 1:=⟨fuel - 1,by omega⟩
  unfold setSearchFrom
  refine wpAny_bind (wpAny_setState_of ho hd T.fits ?_)
  dsimp only
  rw [odd,if_neg (by decide),hst]
  have prob:=qo (g:=fun i=>((es[i]?).map (·.1)).getD 0) T.dm T.up N (K - k) k (10 * SetTable.turns t.mask) rfl hk (by have:=N.lt; omega)
  split
  ·rename_i met hmet
   have hmet':SetTable.probe.go t (fun i=>((es[i]?).map (·.1)).getD 0) ((TK P w).hash kx) (10 * SetTable.turns t.mask) (adv t k (t.probeStart ((TK P w).hash kx)))=some met:=hmet
   rcases prob with⟨k1,i,h1,h2,h3,h4,h5,h6⟩ | ⟨h5,h6⟩
   ·rw [h6] at hmet'
    have em:=Option.some.inj hmet'
    subst em
    dsimp only
    have his:i < es.size:=by rw [←T.sz]; exact(yg2.mp h3).1
    obtain⟨e,he⟩:∃e,es[i]? =some e:=⟨_,ydj his⟩
    obtain⟨k',q',rfl,hk'⟩:=y9q hE he
    have hh:(TK P w).hash k'=(TK P w).hash kx:=by
     have h4':((es[i]?).map (·.1)).getD 0=(TK P w).hash kx:=h4
     rw [he] at h4'
     exact h4'
    have same:t.sameMemory t.moves t.mask=some true:=by unfold SetTable.sameMemory; rw [if_pos (by simp)]
    have sl:=qE T.up h3
    have allq:∀y ∈ (es.filter fun x=>x.1 == (TK P w).hash kx).toList.map (·.2),∃k q,y=Value.ref q∧(TK P w).is s.heap k q:=fun y hy=>by
     obtain⟨e2,he2,rfl⟩:=ycf.mp hy
     rw [Array.toList_filter] at he2
     obtain⟨k2,q2,rfl,hk2⟩:=hE e2 (yd0.mp he2).1
     exact⟨k2,q2,rfl,hk2⟩
    refine wpAny_ite_split (fun _=>wpAny_bind (y8s hx _ allq ?_)) (fun _=> ?_)
    ·rw [if_neg (by decide)]
     rw [he]
     dsimp only
     refine wpAny_bind (wpAny_holding ((TK P w).eqBool room hk' hx ?_))
     refine wpAny_bind (wpAny_setState_of ho hd T.fits ?_)
     dsimp only
     by_cases c:k'=kx
     ·subst c
      have hhas:Has P w s.heap es k':=⟨q',yce (i:=i) (by rw [ycy]; exact he),hk'⟩
      rw [decide_eq_true rfl]
      cases adding with
      | true=>exact wpAny_pure (there hhas none fun z=>by cases z)
      | false=>
       rw [if_neg (by decide),same]
       dsimp only
       rw [if_pos rfl,sl]
       dsimp only
       rw [he]
       dsimp only
       refine wpAny_bind (wpAny_of_eq (a:=true) (by unfold isSame; simp) ?_)
       refine wpAny_bind (wpAny_pure ?_)
       rw [if_pos rfl]
       exact wpAny_pure (there hhas _ fun _=>rfl)
     ·rw [decide_eq_false c,yic,if_neg (by decide),same]
      dsimp only
      rw [if_pos rfl,sl]
      dsimp only
      rw [he]
      dsimp only
      refine wpAny_bind (wpAny_of_eq (a:=true) (by unfold isSame; simp) ?_)
      refine wpAny_bind (wpAny_pure ?_)
      rw [if_pos rfl]
      dsimp only
      refine ih (K - (k1 + 1)) (by omega) (k1 + 1) f _ rfl h2 (by omega) rfl fun hhas=> ?_
      obtain⟨k0,i0,q0,a1,a2,a3,a4,a5⟩:=hp hhas
      refine⟨k0,i0,q0, ?_,a2,a3,a4,a5⟩
      rcases yf6 k0 k1 with d | d | d
      ·exact absurd (by show((es[i0]?).map (·.1)).getD 0=_; rw [a4]; rfl) (h5 k0 a1 d i0 a3)
      ·subst d
       have ei:i0=i:=Wv T.up a3 h3
       subst ei
       rw [he] at a4
       have e1:=Option.some.inj a4
       have e2:q'=q0:=by
        have:=congrArg (fun e:Int × Value=>e.2) e1
        exact Value.ref.inj this
       subst e2
       exact absurd ((TK P w).inj hk' a5) c
      ·exact d
    ·rw [he]
     dsimp only
     refine wpAny_bind (wpAny_holding ((TK P w).eqBool room hk' hx ?_))
     refine wpAny_bind (wpAny_setState_of ho hd T.fits ?_)
     dsimp only
     by_cases c:k'=kx
     ·subst c
      have hhas:Has P w s.heap es k':=⟨q',yce (i:=i) (by rw [ycy]; exact he),hk'⟩
      rw [decide_eq_true rfl]
      cases adding with
      | true=>exact wpAny_pure (there hhas none fun z=>by cases z)
      | false=>
       rw [if_neg (by decide),same]
       dsimp only
       rw [if_pos rfl,sl]
       dsimp only
       rw [he]
       dsimp only
       refine wpAny_bind (wpAny_of_eq (a:=true) (by unfold isSame; simp) ?_)
       refine wpAny_bind (wpAny_pure ?_)
       rw [if_pos rfl]
       exact wpAny_pure (there hhas _ fun _=>rfl)
     ·rw [decide_eq_false c,yic,if_neg (by decide),same]
      dsimp only
      rw [if_pos rfl,sl]
      dsimp only
      rw [he]
      dsimp only
      refine wpAny_bind (wpAny_of_eq (a:=true) (by unfold isSame; simp) ?_)
      refine wpAny_bind (wpAny_pure ?_)
      rw [if_pos rfl]
      dsimp only
      refine ih (K - (k1 + 1)) (by omega) (k1 + 1) f _ rfl h2 (by omega) rfl fun hhas=> ?_
      obtain⟨k0,i0,q0,a1,a2,a3,a4,a5⟩:=hp hhas
      refine⟨k0,i0,q0, ?_,a2,a3,a4,a5⟩
      rcases yf6 k0 k1 with d | d | d
      ·exact absurd (by show((es[i0]?).map (·.1)).getD 0=_; rw [a4]; rfl) (h5 k0 a1 d i0 a3)
      ·subst d
       have ei:i0=i:=Wv T.up a3 h3
       subst ei
       rw [he] at a4
       have e1:=Option.some.inj a4
       have e2:q'=q0:=by
        have:=congrArg (fun e:Int × Value=>e.2) e1
        exact Value.ref.inj this
       subst e2
       exact absurd ((TK P w).inj hk' a5) c
      ·exact d
   ·rw [h6] at hmet'
    have em:=Option.some.inj hmet'
    subst em
    dsimp only
    refine wpAny_pure (free fun hh=> ?_)
    obtain⟨k0,i0,q0,a1,a2,a3,a4,_⟩:=hp hh
    exact h5 k0 a1 a2 i0 a3 (by show((es[i0]?).map (·.1)).getD 0=_; rw [a4]; rfl)
  ·rename_i hno
   rcases prob with⟨k1,i,_,_,_,_,_,h6⟩ | ⟨_,h6⟩
   ·exact absurd h6 (hno _)
   ·exact absurd h6 (hno _)
theorem xD{a:Addr}{o:Obj}{es:Array (Int × Value)}{ep:Nat}{t:SetTable}{b:Bool}{kx:List Int}{qx:Addr}{adding:Bool}{Q:SetFound→Shared→Prop}(ho:s.heap.get? a=some o)(hd:o.data= .set es ep t)(T:Tab b t es.size)
  (R:Rea t fun i=>(es[i]?).map (·.1)) (hE:Ent P w s.heap es) (hx:(TK P w).is s.heap kx qx) (room:(TK P w).room A)
  (there:Has P w s.heap es kx→∀r,(adding=false→r.isSome=true)→Q (.there r) s) (free:¬Has P w s.heap es kx→∀K,Stops t ((TK P w).hash kx) K→Q (.free (pth t ((TK P w).hash kx) K) false) s) :
  wpAny (model P w) A (setSearch a (.ref qx) ((TK P w).hash kx) adding) Q E s:=by
 obtain⟨K,N⟩:=y9k (h:=(TK P w).hash kx) T
 unfold setSearch
 have kb:K < 100000:=by
  have h1:=N.lt
  unfold SetTable.turns at h1
  rcases T.m3 with e | e | e <;> omega
 refine WU ho hd T R hE hx room N there (fun hn=>free hn K N) (K - 0) 0 100000 none rfl (yd9 _) (by omega) rfl fun⟨q,hm,hq⟩=> ?_
 obtain⟨i,hi⟩:=yd1.mp hm
 rw [ycy] at hi
 obtain⟨k0,h1,h2⟩:=R.before N (i:=i) (by show(es[i]?).map (·.1)=_; rw [hi]; rfl)
 exact⟨k0,i,q,yd9 _,h1,h2,hi,hq⟩
end
end L2
namespace L2
open PySem PySem.Spec PyProof.Rows STab
section
variable{P:Program}{w:World}{A:Around}{E:Value→Shared→Prop}{s:Shared}
theorem yag{k:List Int}{q:Addr}{Q:Bool→Shared→Prop}(h:(TK P w).is s.heap k q)(hq:Q true s):wpAny (model P w) A (hashByValue 8 (.ref q)) Q E s:=by
 obtain⟨o,its,n,ho,hc,hd,hi⟩:=h
 have allI:=items_int hi
 unfold hashByValue
 refine wpAny_bind (wpAny_specialOf (T:="tuple") ⟨o,ho,hc⟩ PySem.F.slot_tuple_hash.lookup ?_)
 dsimp only
 refine wpAny_bind (wpAny_seqItems ho hd ?_)
 dsimp only [Option.getD_some]
 rw [←yfm]
 generalize its.toList=l at allI
 clear hi
 refine wpAny_bind ?_
 induction l with
 | nil=>
  rw [yfx]
  exact wpAny_pure (wpAny_pure hq)
 | cons v l ih=>
  obtain⟨z,u,rfl⟩:=allI v yc8
  rw [yf4]
  refine wpAny_bind (wpAny_bind (wpAny_of_eq (a:=true) rfl ?_))
  rw [if_neg (by decide)]
  exact wpAny_pure (ih fun v hv=>allI v (yc9 _ hv))
def ent(P:Program)(w:World)(x:List Int × Addr):Int × Value:=((TK P w).hash x.1, .ref x.2)
def jG(P:Program)(w:World)(h:Heap)(a:Addr)(L:List (List Int × Addr)):Prop:=∃(o:Obj) (es:Array (Int × Value)) (ep:Nat) (t:SetTable),h.get? a=some o∧o.ExactSet∧o.data= .set es ep t∧
 es.toList.Perm (L.map (ent P w))∧Tab (!byT w) t es.size∧es.size * 5 < t.mask * 3∧Rea t fun i=>(es[i]?).map (·.1)
theorem jG.stay{h h':Heap}{a:Addr}{L:List (List Int × Addr)}(x:jG P w h a L)(k:∀o,h.get? a=some o→h'.get? a=some o):jG P w h' a L:=by
 obtain⟨o,es,ep,t,ho,r⟩:=x
 exact⟨o,es,ep,t,k o ho,r⟩
def jY(P:Program)(w:World)(h:Heap)(L:List (List Int × Addr)):Prop:=∀x ∈ L,(TK P w).is h x.1 x.2
theorem WR{h h':Heap}{k:List Int}{q:Addr}(x:(TK P w).is h k q)(st:∀o,h.get? q=some o→h'.get? q=some o):(TK P w).is h' k q:=by
 obtain⟨o,its,n,ho,r⟩:=x
 exact⟨o,its,n,st o ho,r⟩
theorem y3u{h:Heap}{es:Array (Int × Value)}{L:List (List Int × Addr)}(hp:es.toList.Perm (L.map (ent P w)))(ok:jY P w h L):Ent P w h es:=fun e he=>by
 obtain⟨x,hx,rfl⟩:=ycf.mp (hp.mem_iff.mp he)
 exact⟨x.1,x.2,rfl,ok x hx⟩
theorem ZY{h:Heap}{es:Array (Int × Value)}{L:List (List Int × Addr)}(hp:es.toList.Perm (L.map (ent P w)))(ok:jY P w h L){k:List Int}:Has P w h es k↔k ∈ L.map (·.1):=by
 constructor
 ·rintro⟨q,hm,hq⟩
  obtain⟨x,hx,e⟩:=ycf.mp (hp.mem_iff.mp hm)
  have e2:x.2=q:=by
   have:=congrArg (fun e:Int × Value=>e.2) e
   exact Value.ref.inj this
  have:=(TK P w).inj (ok x hx) (by rw [e2]; exact hq)
  exact ycf.mpr ⟨x,hx,this⟩
 ·intro m
  obtain⟨x,hx,rfl⟩:=ycf.mp m
  exact⟨x.2,hp.mem_iff.mpr (ycf.mpr ⟨x,hx,rfl⟩),ok x hx⟩
def Jt(L:List (List Int × Addr))(x:List Int × Addr):List (List Int × Addr):=if x.1 ∈ L.map (·.1) then L else L ++ [x]
theorem y12{a:Addr}{L:List (List Int × Addr)}{k:List Int}{q:Addr}{Q:Bool→Shared→Prop}(hS:jG P w s.heap a L)(ok:jY P w s.heap L)(hk:(TK P w).is s.heap k q)(room:(TK P w).room A)(hl:L.length≤75)
  (h:∀h' b,Heap.SameBut a s.heap h'→jG P w h' a (Jt L (k,q))→Q b {s with heap:=h'}):wpAny (model P w) A (setAddHashed a (.ref q) ((TK P w).hash k)) Q E s:=by
 obtain⟨o,es,ep,t,ho,hx,hd,hp,T,hfull,R⟩:=hS
 have hsz:es.size=L.length:=by rw [←ycn,hp.length_eq,yc2]
 have hf:=T.fits
 have hE:=y3u hp ok
 unfold setAddHashed setAddHashedIn
 refine wpAny_holding (wpAny_bind (wpAny_setState_of ho hd hf ?_))
 have hby:byScan (.ref q) es=false:=rfl
 dsimp only
 rw [hby,if_neg (by decide)]
 refine wpAny_bind (xD ho hd T R hE hk room (fun hh r _=> ?_) (fun hn K N=> ?_))
 ·dsimp only
  have hin:k ∈ L.map (·.1):=(ZY hp ok).mp hh
  refine wpAny_pure ?_
  have q1:=h s.heap false (Heap.SameBut.refl a s.heap) ⟨o,es,ep,t,ho,hx,hd,by unfold Jt; rw [if_pos hin]; exact hp,T,hfull,R⟩
  exact q1
 ·dsimp only
  have hout:k ∉ L.map (·.1):=fun m=>hn ((ZY hp ok).mpr m)
  have hmask:es.size + 1≤t.mask:=by
   rcases T.m3 with e | e | e <;> omega
  obtain⟨T1,m1,hpl⟩:=T.put (y5a K) N.out hmask
  have R1:=Rea.put (x:= .ref q) T rfl R N
  have z1:(SetTable.insertAt es (t.put (pth t ((TK P w).hash k) K)).2 ((TK P w).hash k,Value.ref q)).size=es.size + 1:=Lh _ hpl
  have p1:(SetTable.insertAt es (t.put (pth t ((TK P w).hash k) K)).2 ((TK P w).hash k,Value.ref q)).toList.Perm ((Jt L (k,q)).map (ent P w)):=by
   unfold Jt
   rw [if_neg hout,V1,yci]
   refine(yhl).trans ?_
   rw [ygk]
   exact(yey.cons _ hp).trans (ygl (l₁:= [ent P w (k,q)]))
  refine wpAny_bind (wpAny_setState_of ho hd hf ?_)
  dsimp only
  rw [T1.plain,if_pos rfl]
  refine wpAny_bind (yag hk ?_)
  rw [if_pos rfl]
  generalize hes1:SetTable.insertAt es (t.put (pth t ((TK P w).hash k) K)).2 ((TK P w).hash k,Value.ref q)=es1 at R1 z1 p1 ⊢
  generalize (t.put (pth t ((TK P w).hash k) K)).1=t1 at T1 m1 R1 ⊢
  refine wpAny_bind (wpAny_storeSet_of ho hd ?_ (by rw [z1,sizeLine_eq]; omega))
  have ho1:=MW (es':=es1) (t':=t1) ho hd
  have sb1:=Heap.SameBut.update s.heap a (Obj.putSet es1 t1)
  by_cases c:t1.tooFull=true
  ·rw [c]
   have hn:es1.size * 5 ≥ t1.mask * 3:=by
    unfold SetTable.tooFull SetTable.fill at c
    rw [T1.dm,T1.sz] at c
    have:=of_decide_eq_true c
    simp at this
    omega
   have hM:M3 (SetTable.sizeAbove (SetTable.grown (es.size + 1)) - 1)∧es1.size≤SetTable.sizeAbove (SetTable.grown (es.size + 1)) - 1∧es1.size * 5 < (SetTable.sizeAbove (SetTable.grown (es.size + 1)) - 1) * 3∧SetTable.sizeAbove (SetTable.grown (es.size + 1))≤1000:=by
    rcases T.m3 with e | e | e
    ·have z:es.size=4:=by omega
     rw [z1,z]
     exact⟨.inr (.inl (by decide)),by decide,by decide,by decide⟩
    ·have z:es.size=18:=by omega
     rw [z1,z]
     exact⟨.inr (.inr (by decide)),by decide,by decide,by decide⟩
    ·omega
   obtain⟨t2,order,e2,T2,m2,z2,p2,R2⟩:=y1p (es:=es1) (z1 ▸ T1) rfl (SetTable.grown (es.size + 1)) hM.1 hM.2.1
   rw [if_pos (by rfl)]
   unfold setRelay
   refine wpAny_bind (wpAny_bind (wpAny_setState_of ho1 rfl (z1 ▸ T1).fits ?_))
   dsimp only
   rw [if_neg (by rw [sizeLine_eq]; have:=hM.2.2.2; omega),e2]
   refine wpAny_bind (wpAny_ite_split (fun q=> ?_) (fun _=>wpAny_pure ?_))
   ·have q':((order.filterMap (es1[·]?)).size != es1.size)=true:=q
    rw [z2] at q'
    simp at q'
   dsimp only
   refine wpAny_storeSet_of ho1 rfl ?_ (by rw [z2,z1,sizeLine_eq]; omega)
   refine wpAny_pure ?_
   refine h _ true (sb1.trans (Heap.SameBut.update _ a _)) ⟨_,order.filterMap (es1[·]?),_,t2,MW ho1 rfl,hx,rfl,p2.trans p1,z2 ▸ T2, ?_,R2⟩
   rw [z2,m2]; exact hM.2.2.1
  ·rw [if_neg (by simpa using c)]
   refine wpAny_pure ?_
   refine h _ true sb1 ⟨_,es1,_,t1,ho1,hx,rfl,p1,z1 ▸ T1, ?_,R1⟩
   unfold SetTable.tooFull SetTable.fill at c
   rw [T1.dm,T1.sz] at c
   have:=of_decide_eq_false (ydh.mpr c)
   simp at this
   omega
theorem Wu{L:List (List Int × Addr)}{x:List Int × Addr}{k:List Int}:k ∈ (Jt L x).map (·.1)↔k ∈ L.map (·.1)∨k=x.1:=by
 unfold Jt
 split
 ·rename_i hin
  exact⟨.inl,fun q=>q.elim id fun q=>by rw [q]; exact hin⟩
 ·rw [yci,ycw]
  simp
theorem y9p{L:List (List Int × Addr)}{x:List Int × Addr}(nd:(L.map (·.1)).Nodup):((Jt L x).map (·.1)).Nodup:=by
 unfold Jt
 split
 ·exact nd
 ·rename_i hn
  rw [yci]
  exact Lz nd hn
theorem Qp(L:List (List Int × Addr))(x:List Int × Addr):(Jt L x).length≤L.length + 1:=by
 unfold Jt
 split
 ·omega
 ·rw [ycr]; exact yc6 _
theorem Qv{L:List (List Int × Addr)}{x y:List Int × Addr}(h:y ∈ Jt L x):y ∈ L∨y=x:=by
 unfold Jt at h
 split at h
 ·exact .inl h
 ·rcases ycw.mp h with q | q
  ·exact .inl q
  ·exact .inr (ycb.mp q)
theorem y6x{R:Result→Shared→Prop}{I:Addr}{fp wr:List Addr}{G:Array GenState→Array GenState→Prop}{n:Nat}{Pv:Nat→Value→Prop}{St:Nat→Shared→Prop}(W:WalksS P w A.in1 I fp wr G n Pv St){S:Addr}(hSf:S ∉ fp){h₀:Heap}
  (val:Nat→List Int × Addr) (hval:∀i v,Pv i v→v= .ref (val i).2∧(TK P w).is h₀ (val i).1 (val i).2) (room:(TK P w).room A.in1) (hb:n≤75) (hS0:∀k q,(TK P w).is h₀ k q→q ≠ S∧q ∉ wr):∀(m i:Nat) (z:Shared) (L:List (List Int × Addr)),n - i=m→i≤n→St i z→
   jG P w z.heap S L→jY P w h₀ L→(L.map (·.1)).Nodup→L.length≤i→(∀b o,b ≠ S→b ∉ wr→h₀.get? b=some o→z.heap.get? b=some o)→
   (∀z' L',Moved (S :: wr) G z z'→jG P w z'.heap S L'→jY P w h₀ L'→(L'.map (·.1)).Nodup→L'.length≤n→(∀k,k ∈ L'.map (·.1)↔k ∈ L.map (·.1)∨∃j,i≤j∧j < n∧(val j).1=k)→(∀y ∈ L',y ∈ L∨∃j,i≤j∧j < n∧val j=y)→R (.ok (.ret .none)) z')→
   codeAny (model P w) A (.builtin "set.update.loop" ⟨[.ref S, .ref I], []⟩) R z:=by
 have hSw:S ∉ wr:=fun q=>hSf (W.sub _ q)
 intro m
 induction m with
 | zero=>
  intro i z L hm hi st hS ok nd hl keep hR
  have e:i=n:=by omega
  subst e
  refine codeAny_builtin F.entry_set_update_loop ?_
  rw [Around.under_plainId F.plain_set_update_loop _]
  refine wpAny_bind (m:=pyNext (.ref I)) (W.done z _ _ st fun z' mv=>wpAny_pure ?_)
  exact hR z' L (mv.mono fun b hb=>yc9 _ hb) (hS.stay fun o q=>mv.heap S o hSw q) ok nd hl (fun k=>⟨.inl,fun q=>by
   rcases q with q | ⟨j,h1,h2,_⟩
   ·exact q
   ·omega⟩) fun y hy=> .inl hy
 | succ m ih=>
  intro i z L hm hi st hS ok nd hl keep hR
  have hlt:i < n:=by omega
  refine codeAny_builtin F.entry_set_update_loop ?_
  rw [Around.under_plainId F.plain_set_update_loop _]
  refine wpAny_bind (m:=pyNext (.ref I)) (W.item i z _ _ hlt st fun v z' hv st' mv=> ?_)
  obtain⟨rfl,hk⟩:=hval i v hv
  have up:∀{k q},(TK P w).is h₀ k q→(TK P w).is z'.heap k q:=fun {k q} x=>by
   obtain⟨n1,n2⟩:=hS0 k q x
   exact WR x fun o e=>mv.heap q o n2 (keep q o n1 n2 e)
  refine wpAny_bind (m:=holding _ _) (wpAny_holding ?_)
  unfold setAdd
  refine wpAny_holding (wpAny_bind ((TK P w).pyHash room (up hk) ?_))
  refine y12 (s:={z' with toks:=z'.toks + (TK P w).draws (val i).1}) (hS.stay fun o q=>mv.heap S o hSw q) (fun x hx=>up (ok x hx)) (up hk) room (by omega) fun h' b sb hS'=> ?_
  refine wpAny_pure ⟨plainId_quiet F.plain_set_update_loop _,ih (i + 1) _ (Jt L (val i)) (by omega) hlt (W.frame _ z' _ _ st' (ygm _ _) fun b hb o q=> ?_) hS' (fun x hx=> ?_) (y9p nd) (ydw (Qp _ _) (Nat.succ_le_succ hl)) (fun b o h1 h2 h3=> ?_) fun z'' L' mv' hS'' ok' nd' hl' hx' ha'=> ?_⟩
  ·rw [sb.2 b fun q':b=S=>hSf (by rw [←q']; exact hb)]; exact q
  ·rcases Qv hx with q | q
   ·exact ok x q
   ·rw [q]; exact hk
  ·rw [sb.2 b h1]
   exact mv.heap b o h2 (keep b o h1 h2 h3)
  ·refine hR z'' L' (Moved.trans W.gtrans ((mv.mono fun b hb=>yc9 _ hb).then_heap (ygm _ _) fun b o hb q=> ?_) mv') hS'' ok' nd' hl' (fun k=> ?_) fun y hy=> ?_
   ·rw [sb.2 b fun q':b=S=>hb (by rw [q']; exact yc8)]; exact q
   ·rw [hx' k,Wu]
    constructor
    ·rintro((q | q) | ⟨j,h1,h2,h3⟩)
     ·exact .inl q
     ·exact .inr ⟨i,yc6 _,hlt,q.symm⟩
     ·exact .inr ⟨j,by omega,h2,h3⟩
    ·rintro(q | ⟨j,h1,h2,h3⟩)
     ·exact .inl (.inl q)
     ·rcases ydq i j with c | c
      ·exact .inr ⟨j,c,h2,h3⟩
      ·have:j=i:=by omega
       subst this
       exact .inl (.inr h3.symm)
   ·rcases ha' y hy with q | ⟨j,h1,h2,h3⟩
    ·rcases Qv q with q | q
     ·exact .inl q
     ·exact .inr ⟨i,yc6 _,hlt,q.symm⟩
    ·exact .inr ⟨j,by omega,h2,h3⟩
theorem We{h:Heap}{a:Addr}(e:h.get? a=some (Jb (!byT w))):jG P w h a []:=by
 obtain⟨o,es,ep,t,ho,hx,hd,hel,hp,T,hf⟩:=Wx (P:=P) e
 refine⟨o,es,ep,t,ho,hx,hd, ?_,T,hf,fun i h' hi=> ?_⟩
 ·have:es.toList= []:=by
   have:=hp.length_eq
   rw [yc2] at this
   exact yfs this
  rw [this]; exact .nil
 ·have:es.size=0:=by
   have:=hp.length_eq
   rw [yc2,ycn] at this
   exact this
  have hn:es[i]? =none:=yft (by omega)
  have hi':(es[i]?).map (·.1)=some h':=hi
  rw [hn] at hi'
  cases hi'
set_option maxHeartbeats 3200000 in
theorem y05{l:Addr}{its:Array Value}{val:Nat→List Int × Addr}{Q:Value→Shared→Prop}(hcalm:A.handled=none)(hL:s.heap.IsList l its)(hns:∀(i:Nat) (v:Value),its[i]? =some v→v= .ref (val i).2∧(TK P w).is s.heap (val i).1 (val i).2)(hb:its.size≤75)(room:A.units + 3 < cLine)
  (h:∀(h':Heap) (tk:Nat) (L:List (List Int × Addr)),jG P w h' s.heap.objs.size L→jY P w s.heap L→(L.map (·.1)).Nodup→L.length≤its.size→(∀k,k ∈ L.map (·.1)↔∃j,j < its.size∧(val j).1=k)→(∀y ∈ L,∃j,j < its.size∧val j=y)→(∀b o,s.heap.get? b=some o→h'.get? b=some o)→Q (.ref s.heap.objs.size) {s with heap:=h',toks:=tk}) :
  wpAny (model P w) A (call (.type "set") [.ref l]) Q E s:=by
 obtain⟨mc,mt,hmro⟩:=ydc.mro
 have made:=ydc.made
 have sub:=ydc.sub
 refine wpAny_call (codeAny_of_tree ?_)
 show wpAny _ _ (callAny (.type "set") _) _ _ _
 refine wpAny_pure ⟨Code.quiet_builtin _ (by decide +kernel),codeAny_builtin yhs ?_⟩
 rw [Around.under_plain (weight_type_call_type "set" [.ref l] []) rfl]
 have t1:=ydc.notType
 have t2:=ydc.canCreate
 have t3:=yi2 (.ref l)
 repeat (any_goals (first | assumption | wp_step))
 refine codeAny_mono (y0x (.ref l) (E:=E) (Q₁:=fun ob z=>ob= .ref s.heap.objs.size∧z={s with heap:=s.heap.push (Jb (!byT w))}) ⟨rfl,rfl⟩) fun r z hr=> ?_
 cases r with
 | error e=>exact hr
 | ok fl=>
  cases fl with
  | ret ob=>
   obtain⟨rfl,rfl⟩:=hr
   have hS:(s.heap.push (Jb (!byT w))).get? s.heap.objs.size=some (Jb (!byT w)):=Heap.get?_push_size _ rfl
   have hT:Shared.TypeIs {s with heap:=s.heap.push (Jb (!byT w))} (.ref s.heap.objs.size) "set":=⟨_,hS,rfl⟩
   have u1:=ydc.init.lookup
   have u2:=ydc.init.bind (.ref s.heap.objs.size)
   repeat (any_goals (first | assumption | wp_step))
   refine codeAny_mono (codeAny_call_builtin (R:=wants (fun r z=>r= .none∧∃h' tk L,z={s with heap:=h',toks:=tk}∧jG P w h' s.heap.objs.size L∧jY P w s.heap L∧(L.map (·.1)).Nodup∧L.length≤its.size∧(∀k,k ∈ L.map (·.1)↔∃j,j < its.size∧(val j).1=k)∧(∀y ∈ L,∃j,j < its.size∧val j=y)∧(∀b o,s.heap.get? b=some o→h'.get? b=some o)) E)
    ydc.init.plain yi3 (check_set_init_1 hT ?_)) fun r z hr=> ?_
   ·obtain⟨ol,hol,oc,nl,od⟩:=hL
    obtain⟨c0,d0,x0,sl0⟩:=ol
    simp only at oc od
    subst oc
    subst od
    have hol1:(s.heap.push (Jb (!byT w))).get? l=some {cls:= .type "list",dict:=d0,data:= .seq its nl,slots:=sl0}:=Heap.get?_push_of_some _ hol
    have v1:=yii
    have v2:=yh4
    have v3:(Value.type "list" == Value.type "dict")=false:=by decide
    have hl1:(s.heap.push (Jb (!byT w))).IsList l its:=⟨_,hol1,rfl,nl,rfl⟩
    unfold Builtin.«set.__init__» noKeywords Builtin.Frozenset.updateFrom
    have hS':(s.heap.push (Jb (!byT w))).get? s.heap.objs.size=some {cls:= .type "set",dict:=none,data:= .set #[] 0 (.fresh 0 0 (!byT w))}:=hS
    generalize hPI:pyIter=PI
    wp_walk
    subst hPI
    refine wpAny_pyIter_list hl1 (wpAny_bind (wpAny_runValue ?_))
    have lS:l < s.heap.objs.size:=Heap.lt_size hol
    have calm3:A.in1.in1.in1.handled=none:=by simp [hcalm]
    have nI:l ≠ (s.heap.push (Jb (!byT w))).objs.size:=by rw [Heap.size_push]; exact ycj (ydi lS)
    have nS:s.heap.objs.size ∉ [(s.heap.push (Jb (!byT w))).objs.size,l]:=by
     rw [Heap.size_push]
     intro q
     rcases ycg.mp q with q | q
     ·exact absurd q (ycj (yeh _))
     ·rw [ycb] at q
      exact absurd q (ydf lS)
    refine y6x ((Walks.list calm3 _ l nI its).toS) nS (h₀:=s.heap) val hns (by show A.units + 1 + 1 + 1 < cLine; omega) hb (fun k q x=> ?_) its.size 0 _ [] (by omega) (yd9 _)
     ⟨⟨_,Heap.get?_push_size _ rfl,rfl,rfl⟩,hl1.push _⟩ (We (Heap.get?_push_of_some _ hS)) (fun x hx=>by cases hx) yfd (yc6 _) (fun b o _ _ q=>Heap.get?_push_of_some _ (Heap.get?_push_of_some _ q)) fun z' L mv hI ok nd hk hx ha=> ?_
    ·obtain⟨o,_,_,ho,_⟩:=x
     have lt:=Heap.lt_size ho
     refine⟨ycj lt,fun m=> ?_⟩
     rw [ycb,Heap.size_push] at m
     exact absurd m (ycj (ydi lt))
    obtain⟨zh,zg,zd,zt,zo⟩:=z'
    have e1:zg=s.gens:=mv.gens
    have e2:zd=s.drawn:=mv.drawn
    have e3:zo=s.os:=mv.os
    subst e1
    subst e2
    subst e3
    refine wpAny_pure (wpAny_pure ⟨rfl,zh,zt,L,rfl,hI,ok,nd,hk,fun k=> ?_,fun y hy=> ?_,fun b o q=> ?_⟩)
    ·rw [hx k]
     constructor
     ·rintro(q | ⟨j,_,h2,h3⟩)
      ·cases q
      ·exact⟨j,h2,h3⟩
     ·rintro⟨j,h2,h3⟩
      exact .inr ⟨j,yd9 _,h2,h3⟩
    ·rcases ha y hy with q | ⟨j,_,h2,h3⟩
     ·cases q
     ·exact⟨j,h2,h3⟩
    ·have lb:=Heap.lt_size q
     refine mv.heap b o (fun m=> ?_) (Heap.get?_push_of_some _ (Heap.get?_push_of_some _ q))
     rcases ycg.mp m with m | m
     ·exact absurd m (ycj lb)
     ·rw [ycb,Heap.size_push] at m
      exact absurd m (ycj (ydi lb))
   ·cases r with
    | error e=>exact hr
    | ok fl=>
     cases fl with
     | ret r=>
      obtain⟨rfl,h',tk,L,rfl,a1,a2,a3,a4,a5,a6,a7⟩:=hr
      repeat (any_goals (first | assumption | wp_step))
      exact h _ _ L a1 a2 a3 a4 a5 a6 a7
     | _=>exact hr.elim
  | _=>exact hr.elim
end
end L2
namespace L2
open PySem PySem.Spec PyProof.Rows STab
section
variable{P:Program}{w:World}{A:Around}{E:Value→Shared→Prop}{s:Shared}
theorem y01{a:Addr}{o:Obj}{es:Array (Int × Value)}{ep:Nat}{t:SetTable}{others:List Addr}{fl:Option Addr}{Q:Array (Int × Value)→Shared→Prop}(ho:s.heap.get? a=some o)(hd:o.data= .set es ep t)(T:Tab (!byT w) t es.size)
  (h:Q (jV w a ep es).toArray s):wpAny (model P w) A (setWalkUnseen a others fl) Q E s:=by
 unfold setWalkUnseen
 refine wpAny_bind (wpAny_setState_of ho hd T.fits ?_)
 dsimp only
 unfold setsByText
 refine wpAny_bind (wpAny_bind (wpAny_askSetting (wpAny_pure ?_)))
 have c:(byT w || (t.led && t.plain) || decide (es.size≤1))=true:=by
  rw [T.led,T.plain]
  cases byT w <;> simp
 refine wpAny_ite_split (fun _=> ?_) (fun n=>absurd (show(byT w || (t.led && t.plain) || decide (es.size≤1))=true from c) n)
 unfold setWalk
 refine wpAny_bind (wpAny_setState_of ho hd T.fits ?_)
 dsimp only
 unfold setsByText
 refine wpAny_bind (wpAny_bind (wpAny_askSetting (wpAny_pure ?_)))
 unfold jV at h
 by_cases b:byT w=true
 ·rw [if_pos b] at h
  refine wpAny_ite_split (fun _=> ?_) (fun n=>absurd b n)
  refine wpAny_bind (wpAny_askSetting (wpAny_pure ?_))
  have e:(pickOrder (w.params.setOrder a ep) es).toList.toArray=pickOrder (w.params.setOrder a ep) es:=by simp
  rw [e] at h
  exact h
 ·rw [if_neg b] at h
  refine wpAny_ite_split (fun n=>absurd n b) (fun _=> ?_)
  have hdr:(!t.plain && decide (es.size > 1))=false:=by rw [T.plain]; rfl
  refine wpAny_ite_split (fun n=>absurd (show(!t.plain && decide (es.size > 1))=true from n) (by rw [hdr]; decide)) (fun _=> ?_)
  have hled:t.led=true:=by rw [T.led,ydh.mpr b]; rfl
  refine wpAny_bind ?_
  show wpAny _ _ (if (!t.led && decide (es.size > 1))=true then _ else pure ()) _ _ _
  rw [hled,if_neg (by simp)]
  refine wpAny_pure (wpAny_pure ?_)
  have e:es.toList.toArray=es:=by simp
  rw [e] at h
  exact h
theorem y7k{a:Addr}{L:List (List Int × Addr)}{k:List Int}{q:Addr}{Q:Option Nat→Shared→Prop}(hS:jG P w s.heap a L)(ok:jY P w s.heap L)(hk:(TK P w).is s.heap k q)(room:(TK P w).room A)
  (h:∀r:Option Nat,r.isSome=decide (k ∈ L.map (·.1))→Q r s):wpAny (model P w) A (setFind a (.ref q) ((TK P w).hash k)) Q E s:=by
 obtain⟨o,es,ep,t,ho,hx,hd,hp,T,hfull,R⟩:=hS
 unfold setFind setFindIn
 refine wpAny_bind (wpAny_setState_of ho hd T.fits ?_)
 have hby:byScan (.ref q) es=false:=rfl
 dsimp only
 rw [hby,if_neg (by decide)]
 refine wpAny_bind (xD ho hd T R (y3u hp ok) hk room (fun hh r hr=> ?_) (fun hn K N=> ?_))
 ·exact wpAny_pure (h r (by rw [hr rfl,decide_eq_true ((ZY hp ok).mp hh)]))
 ·exact wpAny_pure (h none (by rw [decide_eq_false fun m=>hn ((ZY hp ok).mpr m)]; rfl))
def Je(Lo:List (List Int × Addr))(acc xs:List (List Int × Addr)):List (List Int × Addr):=xs.foldl (fun L x=>if x.1 ∈ Lo.map (·.1) then L else Jt L x) acc
theorem Wb{α β:Type}{f:α→β}{l k:List β}(p:l.Perm k):∀m:List α,k=m.map f→∃m':List α,m'.Perm m∧l=m'.map f:=by
 induction p with
 | nil=>intro m e; exact⟨[],by rw [yip.mp e.symm],rfl⟩
 | cons x _ ih=>
  intro m e
  cases m with
  | nil=>cases e
  | cons y m=>
   rw [ycv] at e
   injection e with e1 e2
   obtain⟨m',p',e'⟩:=ih m e2
   exact⟨y :: m',p'.cons y,by rw [ycv,e',e1]⟩
 | swap x y l=>
  intro m e
  cases m with
  | nil=>cases e
  | cons a m=>
   cases m with
   | nil=>simp at e
   | cons b m=>
    rw [ycv,ycv] at e
    injection e with e1 e2
    injection e2 with e2 e3
    exact⟨b :: a :: m,yey.swap a b m,by rw [ycv,ycv,e1,e2,e3]⟩
 | trans _ _ ih1 ih2=>
  intro m e
  obtain⟨m1,p1,e1⟩:=ih2 m e
  obtain⟨m2,p2,e2⟩:=ih1 m1 e1
  exact⟨m2,p2.trans p1,e2⟩
theorem Lk{a:Addr}{o:Obj}{Q:Bool→Shared→Prop}(ho:s.heap.get? a=some o)(hx:o.ExactSet)(h:Q true s):wpAny (model P w) A (isInstance (.ref a) (.type "set")) Q E s:=
 wpAny_isInstance (T:="set") (b:=true) ⟨o,ho,hx.1⟩ sub_set_self h
theorem y4e{nm:String}{a c:Addr}{La Lc:List (List Int × Addr)}{Q:Value→Shared→Prop}(hA:jG P w s.heap a La)(hC:jG P w s.heap c Lc)(okA:jY P w s.heap La)(okC:jY P w s.heap Lc)(hl:La.length≤75)(hsz:La.length / 4≤Lc.length)(room:(TK P w).room A)
  (h:∀h' xs,xs.Perm La→jG P w h' s.heap.objs.size (Je Lc [] xs)→(∀b o,s.heap.get? b=some o→h'.get? b=some o)→Q (.ref s.heap.objs.size) {s with heap:=h'}) :
  wpAny (model P w) A (Builtin.Frozenset.difference nm a (.ref c)) Q E s:=by
 obtain⟨oa,ea,epa,ta,hoa,hxa,hda,hpa,Ta,hfa,Ra⟩:=id hA
 obtain⟨oc,ec,epc,tc,hoc,hxc,hdc,hpc,Tc,hfc,Rc⟩:=id hC
 have za:ea.size=La.length:=by rw [←ycn,hpa.length_eq,yc2]
 have zc:ec.size=Lc.length:=by rw [←ycn,hpc.length_eq,yc2]
 unfold Builtin.Frozenset.difference Builtin.Frozenset.isAnySet
 refine wpAny_bind (wpAny_bind (Lk hoc hxc (wpAny_pure ?_)))
 dsimp only
 rw [if_neg (by decide)]
 refine wpAny_bind (wpAny_pure ?_)
 rw [if_neg (by simp),if_pos rfl]
 unfold Builtin.Frozenset.sizeOf
 refine wpAny_bind (wpAny_bind (wpAny_setEntries_of hoc hdc Tc.fits (wpAny_pure ?_)))
 refine wpAny_bind (wpAny_bind (wpAny_setEntries_of hoa hda Ta.fits (wpAny_pure ?_)))
 rw [if_neg (by rw [za,zc]; omega)]
 unfold Builtin.Frozenset.baseOf
 refine wpAny_bind (wpAny_bind (Lk hoa hxa (wpAny_pure ?_)))
 rw [if_pos rfl]
 unfold newSet setsByText
 refine wpAny_bind (wpAny_bind (wpAny_bind (wpAny_askSetting (wpAny_pure ?_))))
 dsimp only
 simp only [newObj]
 refine wpAny_bind (wpAny_alloc (wpAny_pure ?_))
 refine wpAny_bind (wpAny_pure ?_)
 have push:∀b o,s.heap.get? b=some o→(s.heap.push (Jb (!byT w))).get? b=some o:=fun b o e=>Heap.get?_push_of_some _ e
 refine wpAny_bind (wpAny_setEpoch_of (push _ _ hoa) hda Ta.fits ?_)
 refine wpAny_bind (wpAny_holding (wpAny_bind ?_))
 rw [if_pos trivial]
 refine y01 (push _ _ hoa) hda Ta ?_
 obtain⟨xs,hxs,exs⟩:=Wb ((Mx w a epa ea).trans hpa) La rfl
 rw [exs,←yfm]
 refine wpAny_bind ?_
 have r0:jG P w (s.heap.push (Jb (!byT w))) s.heap.objs.size []:=We (Heap.get?_push_size _ rfl)
 have hfin:∀h2,jG P w h2 s.heap.objs.size (Je Lc [] xs)→(∀b o,s.heap.get? b=some o→h2.get? b=some o)→Q (.ref s.heap.objs.size) {s with heap:=h2}:=fun h2 x1 x2=>h h2 xs hxs x1 x2
 have hin:∀x ∈ xs,(TK P w).is s.heap x.1 x.2:=fun x hx=>okA x (hxs.mem_iff.mp hx)
 have hlen:xs.length + ([]:List (List Int × Addr)).length≤75:=by rw [hxs.length_eq]; exact hl
 have sub:∀x ∈ ([]:List (List Int × Addr)),(TK P w).is s.heap x.1 x.2:=fun x hx=>by cases hx
 show wpAny _ _ _ _ _ {s with heap:=s.heap.push (Jb (!byT w))}
 generalize s.heap.push (Jb (!byT w))=h1 at r0 push ⊢
 generalize ([]:List (List Int × Addr))=Lr at r0 hfin hlen sub
 clear exs hxs h
 have et:(List.map (ent P w) xs).toArray.toList=xs.map (ent P w):=rfl
 rw [et]
 clear et
 induction xs generalizing Lr h1 with
 | nil=>
  rw [yfg,yfx]
  exact wpAny_pure (wpAny_pure (wpAny_pure (hfin h1 r0 push)))
 | cons x xs ih=>
  have hx:=hin x yc8
  have up:∀{k q},(TK P w).is s.heap k q→(TK P w).is h1 k q:=fun {k q} y=>WR y fun o e=>push q o e
  rw [ycv,yf4]
  rw [yct] at hlen
  refine wpAny_bind (wpAny_bind (wpAny_holding ?_))
  rw [if_pos trivial]
  refine wpAny_bind (y7k (s:={s with heap:=h1}) (hC.stay fun o e=>push _ _ e) (fun y hy=>up (okC y hy)) (up hx) room fun r hr=> ?_)
  refine wpAny_bind (wpAny_pure ?_)
  rw [hr]
  have unch:∀{h2:Heap} {Q':Unit→Shared→Prop},(∀b o,s.heap.get? b=some o→h2.get? b=some o)→Q' () {s with heap:=h2}→wpAny (model P w) A (Builtin.Frozenset.unchanged nm a epa) Q' E {s with heap:=h2}:=fun {h2 Q'} k q=>by
   unfold Builtin.Frozenset.unchanged
   refine wpAny_bind (wpAny_setEpoch_of (k _ _ hoa) hda Ta.fits ?_)
   rw [if_neg (by simp)]
   exact wpAny_pure q
  by_cases cm:x.1 ∈ Lc.map (·.1)
  ·rw [decide_eq_true cm,if_neg (by decide)]
   refine wpAny_pure (wpAny_bind (unch push (wpAny_pure ?_)))
   dsimp only
   have ed:Je Lc Lr (x :: xs)=Je Lc Lr xs:=by
    show Je Lc (if x.1 ∈ Lc.map (·.1) then Lr else Jt Lr x) xs=_
    rw [if_pos cm]
   rw [ed] at hfin
   exact ih (fun y hy=>hin y (yc9 _ hy)) h1 push Lr r0 hfin (by omega) sub
  ·rw [decide_eq_false cm,if_pos (by decide)]
   refine wpAny_bind (y12 (s:={s with heap:=h1}) r0 (fun y hy=>up (sub y hy)) (up hx) room (by omega) fun h2 b sb hS=>wpAny_pure ?_)
   have push2:∀b o,s.heap.get? b=some o→h2.get? b=some o:=fun b o e=>by
    rw [sb.2 b (ycj (Heap.lt_size e))]; exact push b o e
   refine wpAny_bind (unch push2 (wpAny_pure ?_))
   dsimp only
   have ed:Je Lc Lr (x :: xs)=Je Lc (Jt Lr x) xs:=by
    show Je Lc (if x.1 ∈ Lc.map (·.1) then Lr else Jt Lr x) xs=_
    rw [if_neg cm]
   rw [ed] at hfin
   have la:=Qp Lr x
   refine ih (fun y hy=>hin y (yc9 _ hy)) h2 push2 (Jt Lr x) hS hfin (by omega) fun y hy=> ?_
   rcases Qv hy with q | q
   ·exact sub y q
   ·rw [q]; exact hx
end
end L2
namespace L2
open PySem PySem.Spec PyProof.Rows
def Mz(f0 f1:Value)(TI TO:Addr):Obj:={cls:= .type "zip",dict:=none,data:= .fields #[f0,f1, .bool false, .ref TI, .ref TO],slots:=#[]}
section
variable{P:Program}{w:World}{A:Around}{E:Value→Shared→Prop}{s:Shared}
theorem y85{M:Model}{a:Addr}{o:Obj}{Q:Option Obj→Shared→Prop}(ho:s.heap.get? a=some o)(h:Q (some o) s):wpAny M A (loadIfAlive a) Q E s:=by
 intro Γ p x
 unfold loadIfAlive
 rw [Sem.wp_loadIfAlive,ho]
 simpa using h
theorem y7a{z TI TO i1 i2 l1 l2 T:Addr}{f1:Value}{k:Nat}{xs ys:Array Value}{x y:Value}{Q:Option Value→Shared→Prop}(D:ZipApart z TI TO i1 i2 l1 l2)(hz:s.heap.get? z=some (Mz (rawInt T) f1 TI TO))(hTI:IsPair s.heap TI (.ref i1) (.ref i2))(hT:∃o,s.heap.get? T=some o)
  (h1:s.heap.IsListIter i1 l1 k) (h2:s.heap.IsListIter i2 l2 k) (hl1:s.heap.IsList l1 xs) (hl2:s.heap.IsList l2 ys) (hx:xs[k]? =some x) (hy:ys[k]? =some y)
  (hQ:∀h' f1',h'.get? z=some (Mz (rawInt T) f1' TI TO)→h'.IsListIter i1 l1 (k + 1)→h'.IsListIter i2 l2 (k + 1)→IsPair h' s.heap.objs.size x y→(∀c o,c ≠ z→c ≠ i1→c ≠ i2→s.heap.get? c=some o→h'.get? c=some o)→Q (some (.ref s.heap.objs.size)) {s with heap:=h'}) :
  wpAny (model P w) A (pyNext (.ref z)) Q E s:=by
 have hTy:s.TypeIs (.ref z) "zip":=⟨_,hz,rfl⟩
 unfold pyNext
 refine wpAny_bind (wpAny_attempt (wpAny_callSpecial?_slot (name:=Str.ofString "__next__") hTy yfw (wpAny_call_entry yfw hTy yi4 ?_ (yht _))))
 unfold Builtin.«zip.__next__»
 refine wpAny_bind (wpAny_of_eq (a:=(Value.ref z, [])) rfl ?_)
 dsimp only
 refine wpAny_bind (wpAny_field hz rfl (x:= .bool false) rfl ?_)
 refine wpAny_bind (wpAny_field hz rfl (x:= .ref TI) rfl ?_)
 refine wpAny_bind (wpAny_seqItems hTI rfl ?_)
 dsimp only
 rw [if_neg (by simp)]
 refine wpAny_bind (wpAny_mono (Q:=fun b s'=>b=false∧∃h₁ f1',s'={s with heap:=h₁}∧h₁.get? z=some (Mz (rawInt T) f1' TI TO)∧Heap.SameBut z s.heap h₁) ?_ (fun b s' hm=> ?_) fun _ _ e=>e)
 ·unfold Builtin.SmallTypes.ownedTupleIsFree
  refine wpAny_bind (wpAny_field hz rfl (x:=rawInt T) rfl ?_)
  obtain⟨oT,hoT⟩:=hT
  have hTn:(T:Int).toNat=T:=ydm T
  refine wpAny_bind ?_
  show wpAny _ _ (loadIfAlive (T:Int).toNat) _ _ _
  rw [hTn]
  refine y85 hoT ?_
  rw [if_neg (by simp)]
  refine wpAny_bind (wpAny_field hz rfl (x:=f1) rfl ?_)
  refine wpAny_ite_split (fun _=> ?_) (fun _=> ?_)
  ·exact wpAny_bind (wpAny_setField_rec hz (by simp) fun h₁ hz₁ hs₁=>wpAny_pure ⟨rfl,h₁, .bool true,rfl,hz₁,hs₁⟩)
  ·exact wpAny_pure ⟨rfl,s.heap,f1,rfl,hz,Heap.SameBut.refl _ _⟩
 ·obtain⟨rfl,h₁,f1',rfl,hz₁,hs₁⟩:=hm
  rw [if_neg (by decide)]
  refine wpAny_bind ?_
  rw [←yfm]
  simp only [yf4,yfx]
  refine wpAny_bind (wpAny_bind (wpAny_holding ?_))
  show wpAny _ _ (Builtin.SmallTypes.nextOf (.ref i1) >>= _) _ _ _
  refine wpAny_bind (wpAny_nextOf_list_item (h1.extBut hs₁.extBut D.i1z) (hl1.extBut hs₁.extBut D.l1z) hx fun h₂ h1₂ hs₂=>wpAny_pure (wpAny_pure ?_))
  refine wpAny_bind (wpAny_bind (wpAny_holding ?_))
  show wpAny _ _ (Builtin.SmallTypes.nextOf (.ref i2) >>= _) _ _ _
  refine wpAny_bind (wpAny_nextOf_list_item ((h2.extBut hs₁.extBut D.i2z).extBut hs₂.extBut D.i12.symm) ((hl2.extBut hs₁.extBut D.l2z).extBut hs₂.extBut D.l2i1) hy fun h₃ h2₃ hs₃=>wpAny_pure (wpAny_pure (wpAny_pure ?_)))
  have hsz:h₃.objs.size=s.heap.objs.size:=by rw [hs₃.1,hs₂.1,hs₁.1]
  refine wpAny_bind (wpAny_newTuple (wpAny_pure ⟨_,rfl,wpAny_pure ?_⟩) (by show 2≤sizeLine; decide))
  have hz₃:h₃.get? z=some (Mz (rawInt T) f1' TI TO):=hs₃.extBut _ _ D.i2z.symm (hs₂.extBut _ _ D.i1z.symm hz₁)
  show Q (some (.ref h₃.objs.size)) _
  rw [hsz]
  refine hQ _ f1' (Heap.get?_push_of_some _ hz₃) ((h1₂.extBut hs₃.extBut D.i12).at fun o e=>Heap.get?_push_of_some _ e) (h2₃.at fun o e=>Heap.get?_push_of_some _ e) ?_ fun c o c1 c3 c4 e=>Heap.get?_push_of_some _ (hs₃.extBut _ _ c4 (hs₂.extBut _ _ c3 (hs₁.extBut _ _ c1 e)))
  rw [←hsz]
  exact Heap.get?_push_size _ rfl
theorem y6g{z TI TO i1 i2 l1 l2 T:Addr}{f1:Value}{k:Nat}{xs ys:Array Value}{Q:Option Value→Shared→Prop}(hcalm:A.handled=none)(D:ZipApart z TI TO i1 i2 l1 l2)(hz:s.heap.get? z=some (Mz (rawInt T) f1 TI TO))(hTI:IsPair s.heap TI (.ref i1) (.ref i2))(hT:∃o,s.heap.get? T=some o)
  (h1:s.heap.IsListIter i1 l1 k) (h2:s.heap.IsListIter i2 l2 k) (hl1:s.heap.IsList l1 xs) (hl2:s.heap.IsList l2 ys) (hend:xs[k]? =none∨ys[k]? =none)
  (hQ:∀h',(∀c o,c ≠ z→c ≠ i1→c ≠ i2→s.heap.get? c=some o→h'.get? c=some o)→Q none {s with heap:=h'}) :
  wpAny (model P w) A (pyNext (.ref z)) Q E s:=by
 have hTy:s.TypeIs (.ref z) "zip":=⟨_,hz,rfl⟩
 unfold pyNext
 refine wpAny_bind (wpAny_attempt (wpAny_callSpecial?_slot (name:=Str.ofString "__next__") hTy yfw (wpAny_call_entry yfw hTy yi4 ?_ (yht _))))
 unfold Builtin.«zip.__next__»
 refine wpAny_bind (wpAny_of_eq (a:=(Value.ref z, [])) rfl ?_)
 dsimp only
 refine wpAny_bind (wpAny_field hz rfl (x:= .bool false) rfl ?_)
 refine wpAny_bind (wpAny_field hz rfl (x:= .ref TI) rfl ?_)
 refine wpAny_bind (wpAny_seqItems hTI rfl ?_)
 dsimp only
 rw [if_neg (by simp)]
 refine wpAny_bind (wpAny_mono (Q:=fun b s'=>b=false∧∃h₁ f1',s'={s with heap:=h₁}∧h₁.get? z=some (Mz (rawInt T) f1' TI TO)∧Heap.SameBut z s.heap h₁) ?_ (fun b s' hm=> ?_) fun _ _ e=>e)
 ·unfold Builtin.SmallTypes.ownedTupleIsFree
  refine wpAny_bind (wpAny_field hz rfl (x:=rawInt T) rfl ?_)
  obtain⟨oT,hoT⟩:=hT
  have hTn:(T:Int).toNat=T:=ydm T
  refine wpAny_bind ?_
  show wpAny _ _ (loadIfAlive (T:Int).toNat) _ _ _
  rw [hTn]
  refine y85 hoT ?_
  rw [if_neg (by simp)]
  refine wpAny_bind (wpAny_field hz rfl (x:=f1) rfl ?_)
  refine wpAny_ite_split (fun _=> ?_) (fun _=> ?_)
  ·exact wpAny_bind (wpAny_setField_rec hz (by simp) fun h₁ hz₁ hs₁=>wpAny_pure ⟨rfl,h₁, .bool true,rfl,hz₁,hs₁⟩)
  ·exact wpAny_pure ⟨rfl,s.heap,f1,rfl,hz,Heap.SameBut.refl _ _⟩
 ·obtain⟨rfl,h₁,f1',rfl,hz₁,hs₁⟩:=hm
  rw [if_neg (by decide)]
  refine wpAny_bind ?_
  rw [←yfm]
  simp only [yf4,yfx]
  refine wpAny_bind (wpAny_bind (wpAny_holding ?_))
  show wpAny _ _ (Builtin.SmallTypes.nextOf (.ref i1) >>= _) _ _ _
  have calm1:A.in1.handled=none:=hcalm
  have fin:∀{h₄:Heap} {e:Addr},(∃o,h₄.get? e=some o∧o.cls= .type "StopIteration")→(∀c o,c ≠ z→c ≠ i1→c ≠ i2→s.heap.get? c=some o→h₄.get? c=some o)→wpAny (model P w) A (do if ←isInstance (.ref e) (.type "StopIteration") then pure (none:Option Value) else throw (.ref e)) Q E {s with heap:=h₄}:=fun {h₄ e} he kp=>by
   obtain⟨oe,hoe,hce⟩:=he
   refine wpAny_bind (wpAny_isInstance (T:="StopIteration") (b:=true) ⟨oe,hoe,hce⟩ isSubtype_stop ?_)
   exact wpAny_pure (hQ _ kp)
  cases hx:xs[k]? with
  | none=>
   refine wpAny_bind (wpAny_nextOf_list_end calm1 (h1.extBut hs₁.extBut D.i1z) (hl1.extBut hs₁.extBut D.l1z) hx fun h₂ e hs₂ he=> ?_)
   exact fin he fun c o c1 c3 _ q=>hs₂ _ _ c3 (hs₁.extBut _ _ c1 q)
  | some x=>
   have hy:ys[k]? =none:=by
    rcases hend with q | q
    ·rw [hx] at q; cases q
    ·exact q
   refine wpAny_bind (wpAny_nextOf_list_item (h1.extBut hs₁.extBut D.i1z) (hl1.extBut hs₁.extBut D.l1z) hx fun h₂ h1₂ hs₂=>wpAny_pure (wpAny_pure ?_))
   refine wpAny_bind (wpAny_bind (wpAny_holding ?_))
   show wpAny _ _ (Builtin.SmallTypes.nextOf (.ref i2) >>= _) _ _ _
   refine wpAny_bind (wpAny_nextOf_list_end calm1 ((h2.extBut hs₁.extBut D.i2z).extBut hs₂.extBut D.i12.symm) ((hl2.extBut hs₁.extBut D.l2z).extBut hs₂.extBut D.l2i1) hy fun h₃ e hs₃ he=> ?_)
   exact fin he fun c o c1 c3 c4 q=>hs₃ _ _ c4 (hs₂.extBut _ _ c3 (hs₁.extBut _ _ c1 q))
end
end L2
namespace L2
open PySem PySem.Spec PyProof.Rows
section
variable{P:Program}{w:World}{A:Around}{E:Value→Shared→Prop}{s:Shared}
def seqC(o:Obj):Nat:=match o.data with | .seq _ c=>c | _=>0
def VG(its:Array Value)(c:Nat):Obj:={cls:= .type "list",data:= .seq its c}
structure ZP (h:Heap) (N S:Addr) (xs ys:Array Value) (Ts:List Addr) (c:Nat):Prop where
 lst:h.get? S=some (VG (Ts.map Value.ref).toArray c)
 prs:∀(j:Nat) (T:Addr),Ts[j]? =some T→∃x y,xs[j]? =some x∧ys[j]? =some y∧IsPair h T x y
 lo:∀T ∈ Ts,N≤T
 nd:Ts.Nodup
structure ZS (h:Heap) (z TI TO i1 i2 l1 l2 N S:Addr) (xs ys:Array Value) (Ts:List Addr) (c:Nat):Prop where
 zp:ZP h N S xs ys Ts c
 zip:(Ts= []∧IsZip h z TI TO .none∧∃a b,IsPair h TO a b)∨(∃T f1,T ∈ Ts∧h.get? z=some (Mz (rawInt T) f1 TI TO))
 ti:IsPair h TI (.ref i1) (.ref i2)
 a1:h.IsListIter i1 l1 Ts.length
 a2:h.IsListIter i2 l2 Ts.length
 b1:h.IsList l1 xs
 b2:h.IsList l2 ys
 sz:N≤h.objs.size
theorem y7n{R:Result→Shared→Prop}{z TI TO i1 i2 l1 l2 N S:Addr}{xs ys:Array Value}{res:Value}(D:ZipApart z TI TO i1 i2 l1 l2)(hcalm:A.handled=none)(low:z < N∧TI < N∧TO < N∧i1 < N∧i2 < N∧l1 < N∧l2 < N∧S < N)
  (nS:S ≠ z∧S ≠ TI∧S ≠ TO∧S ≠ i1∧S ≠ i2∧S ≠ l1∧S ≠ l2) (hn:min xs.size ys.size≤1000):∀(m:Nat) (Ts:List Addr) (h:Heap) (c:Nat),min xs.size ys.size - Ts.length=m→Ts.length≤min xs.size ys.size→ZS h z TI TO i1 i2 l1 l2 N S xs ys Ts c→
   (∀h' Ts' c',ZP h' N S xs ys Ts' c'→Ts'.length=min xs.size ys.size→(∀b o,b < N→b ≠ S→b ≠ z→b ≠ TO→b ≠ i1→b ≠ i2→h.get? b=some o→h'.get? b=some o)→R (.ok (.ret res)) {s with heap:=h'})→
   codeAny (model P w) A (.builtin "list.extend.loop" ⟨[.ref S, .ref z,res], []⟩) R {s with heap:=h}:=by
 obtain⟨q1,q2,q3,q4,q5,q6,q7,q8⟩:=low
 obtain⟨n1,n2,n3,n4,n5,n6,n7⟩:=nS
 have far:∀{a T:Addr},a < N→N≤T→T ≠ a:=fun h1 h2=>ydf (ycm h1 h2)
 intro m
 induction m with
 | zero=>
  intro Ts h c hm hl Z hR
  have el:Ts.length=min xs.size ys.size:=by omega
  refine codeAny_builtin yhb ?_
  rw [Around.under_plainId yer _]
  have hend:xs[Ts.length]? =none∨ys[Ts.length]? =none:=by
   rw [el]
   rcases yiv xs.size ys.size with q | q
   ·exact .inl (yft (by omega))
   ·exact .inr (yft (by omega))
  have fin:∀h',(∀c o,c ≠ z→c ≠ TO→c ≠ i1→c ≠ i2→h.get? c=some o→h'.get? c=some o)→R (.ok (.ret res)) {s with heap:=h'}:=fun h' k=>by
   refine hR h' Ts c ⟨k S _ n1 n3 n4 n5 Z.zp.lst,fun j T q=> ?_,Z.zp.lo,Z.zp.nd⟩ el fun b o hb _ c1 c2 c3 c4 q=>k b o c1 c2 c3 c4 q
   obtain⟨x,y,e1,e2,e3⟩:=Z.zp.prs j T q
   have lo:=Z.zp.lo T (yce q)
   exact⟨x,y,e1,e2,k T _ (far q1 lo) (far q3 lo) (far q4 lo) (far q5 lo) e3⟩
  rcases Z.zip with⟨eT,hz,a,b,hTO⟩ | ⟨T,f1,hT,hz⟩
  ·refine wpAny_bind (m:=pyNext (.ref z)) (wpAny_pyNext_zip_end hcalm D hz Z.ti hTO Z.a1 Z.a2 Z.b1 Z.b2 hend fun h' k=>wpAny_pure (fin h' k))
  ·obtain⟨j,hj⟩:=yd1.mp hT
   obtain⟨x,y,_,_,e3⟩:=Z.zp.prs j T hj
   refine wpAny_bind (m:=pyNext (.ref z)) (y6g hcalm D hz Z.ti ⟨_,e3⟩ Z.a1 Z.a2 Z.b1 Z.b2 hend fun h' k=>wpAny_pure (fin h' fun c o c1 _ c3 c4 q=>k c o c1 c3 c4 q))
 | succ m ih=>
  intro Ts h c hm hl Z hR
  have hlt:Ts.length < min xs.size ys.size:=by omega
  obtain⟨x,hx⟩:∃x,xs[Ts.length]? =some x:=⟨_,ydj (by omega)⟩
  obtain⟨y,hy⟩:∃y,ys[Ts.length]? =some y:=⟨_,ydj (by omega)⟩
  refine codeAny_builtin yhb ?_
  rw [Around.under_plainId yer _]
  have sz:=Z.sz
  have go:∀h',(∃f1,h'.get? z=some (Mz (rawInt h.objs.size) f1 TI TO)∨∃T,T ∈ Ts∧h'.get? z=some (Mz (rawInt T) f1 TI TO))→h'.IsListIter i1 l1 (Ts.length + 1)→h'.IsListIter i2 l2 (Ts.length + 1)→IsPair h' h.objs.size x y→
    (∀c o,c ≠ z→c ≠ TO→c ≠ i1→c ≠ i2→h.get? c=some o→h'.get? c=some o)→
    wpAny (model P w) A.in1 (do Builtin.List.listUpdate (.ref S) (·.push (.ref h.objs.size)); again (.builtin "list.extend.loop" ⟨[.ref S, .ref z,res], []⟩)) (fun fin s'=>match fin with | .done f=>R (.ok f) s' | .again c'=>c'.quiet=true∧codeAny (model P w) A c' R s') (fun e s'=>R (.error e) s') {s with heap:=h'}:=fun h' hz h1 h2 hT k=>by
   have hS:=k S _ n1 n3 n4 n5 Z.zp.lst
   have e1:((Ts.map Value.ref).toArray).push (.ref h.objs.size)=((Ts ++ [h.objs.size]).map Value.ref).toArray:=by simp
   refine wpAny_bind ?_
   show wpAny _ _ (updateSeq S (·.push (.ref h.objs.size))) _ _ _
   refine wpAny_updateSeq hS rfl (wpAny_pure ⟨plainId_quiet yer _, ?_⟩) (by show(Ts.map Value.ref).toArray.size≤sizeLine; rw [yc7,yc2,sizeLine_eq]; omega) (by show((Ts.map Value.ref).toArray.push _).size≤sizeLine + 1; rw [Array.size_push,yc7,yc2,sizeLine_eq]; omega)
   have hS':=Heap.get?_update_self (Obj.mapSeq (·.push (Value.ref h.objs.size))) hS rfl
   have oth:∀b o,b ≠ S→h'.get? b=some o→(h'.update S (Obj.mapSeq (·.push (Value.ref h.objs.size)))).get? b=some o:=fun b o nb q=>(Heap.get?_update_other _ _ (Ne.symm nb)).trans q
   have hsz:h.objs.size < h'.objs.size:=Heap.lt_size hT
   have ll:(Ts ++ [h.objs.size]).length=Ts.length + 1:=by rw [ycr,yd5]
   have up:∀T,N≤T→∀o,h.get? T=some o→(h'.update S (Obj.mapSeq (·.push (Value.ref h.objs.size)))).get? T=some o:=fun T hT o q=>oth T o (far q8 hT) (k T o (far q1 hT) (far q3 hT) (far q4 hT) (far q5 hT) q)
   refine ih (Ts ++ [h.objs.size]) _ (seqC (Obj.mapSeq (·.push (Value.ref h.objs.size)) (VG (Ts.map Value.ref).toArray c))) (by rw [ll]; omega) (by rw [ll]; omega) ⟨⟨?_,fun j T q=> ?_,fun T hT'=> ?_,Lz Z.zp.nd fun hm'=> ?_⟩, ?_, ?_, ?_, ?_, ?_, ?_, ?_⟩ fun h'' Ts' c' z1 z2 z3=>hR h'' Ts' c' z1 z2 fun b o hb c0 c1 c2 c3 c4 q=>z3 b o hb c0 c1 c2 c3 c4 (oth b o c0 (k b o c1 c2 c3 c4 q))
   ·rw [hS',←e1]
    rfl
   ·rcases ydq j Ts.length with d | d
    ·rw [ycu d] at q
     obtain⟨x',y',e1,e2,e3⟩:=Z.zp.prs j T q
     exact⟨x',y',e1,e2,up T (Z.zp.lo T (yce q)) _ e3⟩
    ·have ej:j=Ts.length:=by
      have:=(yc5.mp q).1
      rw [ll] at this
      omega
     subst ej
     rw [ydz (yc6 _),ygu] at q
     have eT:h.objs.size=T:=Option.some.inj q
     subst eT
     exact⟨x,y,hx,hy,oth _ _ (far q8 sz) hT⟩
   ·rcases ycw.mp hT' with d | d
    ·exact Z.zp.lo T d
    ·rw [ycb.mp d]; exact sz
   ·obtain⟨j,hj⟩:=yd1.mp hm'
    obtain⟨_,_,_,_,e3⟩:=Z.zp.prs j _ hj
    exact absurd (Heap.lt_size e3) (yd3 _)
   ·obtain⟨f1,hz⟩:=hz
    rcases hz with hz | ⟨T,hT',hz⟩
    ·exact .inr ⟨_,f1,ycx _ yc8,oth _ _ (Ne.symm n1) hz⟩
    ·exact .inr ⟨T,f1,yde _ hT',oth _ _ (Ne.symm n1) hz⟩
   ·exact oth _ _ (Ne.symm n2) (k TI _ D.TIz D.TITO D.TIi1 D.TIi2 Z.ti)
   ·rw [ll]; exact h1.at fun o q=>oth _ o (Ne.symm n4) q
   ·rw [ll]; exact h2.at fun o q=>oth _ o (Ne.symm n5) q
   ·exact Z.b1.at fun o q=>oth _ o (Ne.symm n6) (k l1 o D.l1z D.l1TO D.l1i1 D.l1i2 q)
   ·exact Z.b2.at fun o q=>oth _ o (Ne.symm n7) (k l2 o D.l2z D.l2TO D.l2i1 D.l2i2 q)
   ·have:(h'.update S (Obj.mapSeq (·.push (Value.ref h.objs.size)))).objs.size=h'.objs.size:=(Heap.SameBut.update h' S _).1
    rw [this]; exact yed (yfl sz hsz)
  rcases Z.zip with⟨eT,hz,a,b,hTO⟩ | ⟨T,f1,hT,hz⟩
  ·refine wpAny_bind (m:=pyNext (.ref z)) (wpAny_pyNext_zip_item D hz Z.ti hTO Z.a1 Z.a2 Z.b1 Z.b2 hx hy fun h' g1 g2 g3 g4 g5 g6 g7=> ?_)
   exact go h' ⟨_, .inl g1⟩ g3 g4 g5 g7
  ·obtain⟨j,hj⟩:=yd1.mp hT
   obtain⟨x',y',_,_,e3⟩:=Z.zp.prs j T hj
   refine wpAny_bind (m:=pyNext (.ref z)) (y7a D hz Z.ti ⟨_,e3⟩ Z.a1 Z.a2 Z.b1 Z.b2 hx hy fun h' f1' g1 g3 g4 g5 g7=> ?_)
   exact go h' ⟨f1', .inr ⟨T,hT,g1⟩⟩ g3 g4 g5 fun c o c1 _ c3 c4 q=>g7 c o c1 c3 c4 q
theorem y3d:typeLookup (.type "zip") "__len__" =pure none:=by rw [typeLookup_type,builtinLookup_eq_fast]; kernel_rfl
theorem y1u:typeLookup (.type "zip") "__length_hint__" =pure none:=by rw [typeLookup_type,builtinLookup_eq_fast]; kernel_rfl
theorem y80{r:Addr}{Q:Bool→Shared→Prop}(hT:s.TypeIs (.ref r) "zip")(h:Q true s):wpAny (model P w) A (Builtin.List.listLengthHint (.ref r)) Q E s:=by
 unfold Builtin.List.listLengthHint
 refine wpAny_bind (wpAny_specialOf hT y3d ?_)
 show wpAny _ A (specialOf (Value.ref r) (Str.ofString "__length_hint__") >>= _) _ _ _
 exact wpAny_bind (wpAny_specialOf hT y1u (wpAny_pure h))
theorem y91{R:Result→Shared→Prop}{z TI TO S:Addr}{res:Value}{c₀:Nat}(hz:IsZip s.heap z TI TO .none)(nS:S ≠ z)(hS:s.heap.get? S=some (VG #[] c₀))
  (hloop:∀h c,(∀b o,b ≠ S→s.heap.get? b=some o→h.get? b=some o)→h.objs.size=s.heap.objs.size→h.get? S=some (VG #[] c)→codeAny (model P w) A (.builtin "list.extend.loop" ⟨[.ref S, .ref z,res], []⟩) R {s with heap:=h}) :
  wpAny (model P w) A.in1 (Builtin.List.listExtendWith (.ref S) (.ref z) res) (fun fin s'=>match fin with | .done f=>R (.ok f) s' | .again c'=>c'.quiet=true∧codeAny (model P w) A c' R s') (fun e s'=>R (.error e) s') s:=by
 unfold Builtin.List.listExtendWith
 refine wpAny_bind (wpAny_typeOf (T:="zip") ⟨_,hz,rfl⟩ ?_)
 have u1:Builtin.List.listSameRef (.ref S) (.ref z)=false:=by simp [Builtin.List.listSameRef,nS]
 have u2:(Value.type "zip" == Value.type "list")=false:=by decide
 have u3:(Value.type "zip" == Value.type "tuple")=false:=by decide
 simp only [u1,u2,u3,Bool.or_false,ydo,if_false]
 refine wpAny_bind (wpAny_pyIter_zip hz ?_)
 refine wpAny_bind (wpAny_holding (y80 ⟨_,hz,rfl⟩ ?_))
 refine wpAny_ite_split (fun _=> ?_) (fun n=>absurd (Bool.true_or _) n)
 refine wpAny_bind (wpAny_rule (wpAny_bind ?_))
 show wpAny _ _ (updateSeq S (·.push .none) >>= fun _=>updateSeq S (·.pop)) _ _ _
 refine wpAny_bind (wpAny_updateSeq hS rfl ?_)
 have v2:=Heap.get?_update_self (Obj.mapSeq (·.push Value.none)) hS rfl
 refine wpAny_updateSeq (hz:=by seq_fits) v2 rfl ?_
 have v3:=Heap.get?_update_self (Obj.mapSeq (·.pop)) v2 rfl
 refine wpAny_pure ⟨plainId_quiet yer _,hloop _ _ (fun b o nb q=> ?_) ?_ v3⟩
 ·exact(Heap.get?_update_other _ _ (Ne.symm nb)).trans ((Heap.get?_update_other _ _ (Ne.symm nb)).trans q)
 ·rw [(Heap.SameBut.update _ S _).1,(Heap.SameBut.update _ S _).1]
theorem z9{z TI TO:Addr}{Q:Value→Shared→Prop}(hz:IsZip s.heap z TI TO .none)
  (hloop:∀h c,(∀b o,b ≠ s.heap.objs.size→(s.heap.push (VG #[] 0)).get? b=some o→h.get? b=some o)→h.objs.size=s.heap.objs.size + 1→h.get? s.heap.objs.size=some (VG #[] c)→
   codeAny (model P w) A.in1 (.builtin "list.extend.loop" ⟨[.ref s.heap.objs.size, .ref z, .none], []⟩) (wants (fun r z'=>r= .none∧Q (.ref s.heap.objs.size) z') E) {s with heap:=h}):wpAny (model P w) A (call (.type "list") [.ref z]) Q E s:=by
 have nS:s.heap.objs.size ≠ z:=ydf (Heap.lt_size hz)
 refine callType_codes (Q₁:=fun ob y=>ob= .ref s.heap.objs.size∧y={s with heap:=s.heap.push (VG #[] 0)}) yio (yhq _) yhr (code_list_new _ ⟨rfl,rfl⟩) fun ob y hy=> ?_
 obtain⟨rfl,rfl⟩:=hy
 have hS:(s.heap.push (VG #[] 0)).get? s.heap.objs.size=some (VG #[] 0):=Heap.get?_push_size _ rfl
 refine⟨⟨_,hS,rfl⟩,yhg _ _, ?_⟩
 show wpAny _ A.in1.in1 (do let old ←Builtin.List.listItems (.ref s.heap.objs.size); Builtin.List.listUpdate (.ref s.heap.objs.size) (fun _=>#[]); letGo old.toList.reverse; Builtin.List.listExtendWith (.ref s.heap.objs.size) (.ref z) .none) _ _ _
 refine wpAny_bind ?_
 unfold Builtin.List.listItems
 refine wpAny_bind (wpAny_seqItems hS rfl (wpAny_pure ?_))
 show wpAny _ A.in1.in1 (updateSeq s.heap.objs.size (fun _=>#[]) >>= fun _=>letGo (#[]:Array Value).toList.reverse >>= fun _=>Builtin.List.listExtendWith (.ref s.heap.objs.size) (.ref z) .none) _ _ _
 refine wpAny_bind (wpAny_updateSeq hS rfl ?_)
 have hS2:=Heap.get?_update_self (Obj.mapSeq (fun _=>(#[]:Array Value))) hS rfl
 have oth:∀b o,b ≠ s.heap.objs.size→(s.heap.push (VG #[] 0)).get? b=some o→((s.heap.push (VG #[] 0)).update s.heap.objs.size (Obj.mapSeq (fun _=>(#[]:Array Value)))).get? b=some o:=fun b o nb q=>(Heap.get?_update_other _ _ (Ne.symm nb)).trans q
 refine wpAny_bind (wpAny_letGo ?_)
 have szU:((s.heap.push (VG #[] 0)).update s.heap.objs.size (Obj.mapSeq (fun _=>(#[]:Array Value)))).objs.size=s.heap.objs.size + 1:=by rw [(Heap.SameBut.update _ _ _).1,Heap.size_push]
 refine y91 (s:={s with heap:=(s.heap.push (VG #[] 0)).update s.heap.objs.size (Obj.mapSeq (fun _=>(#[]:Array Value)))}) (TI:=TI) (TO:=TO) (oth _ _ (Ne.symm nS) (Heap.get?_push_of_some _ hz)) nS hS2 fun h c k sz hc=> ?_
 exact hloop h c (fun b o nb q=>k b o nb (oth b o nb q)) (sz.trans szU) hc
end
section
variable{X:Cx}{pins:List (Addr × Obj)}{σ:St}{H H':Hp}{s:Shared}{h':Heap}
theorem Inv.layAll{t':Nat}(I:Inv X pins σ H s)(k:∀b o,s.heap.get? b=some o→h'.get? b=some o)(sub:∀b o,H b=some o→H' b=some o)(new:∀b o,H' b=some o→H b=some o∨s.heap.objs.size≤b)(ok:HOk X.prog X.w H' h'):Inv X pins σ H' {s with heap:=h',toks:=t'}:=by
 have u:Un X.fs [] H H s.heap h':=Un.kept k
 refine I.un ⟨u.keep,u.slot,fun b ob q n hx=> ?_,u.there,fun b xs q=>sub _ _ (u.tups b xs q),fun b ob xs q=>sub _ _ (u.frzs b ob xs q),fun b ps q=> ?_⟩ ok
 ·cases e:H' b with
  | none=>rfl
  | some o=>
   rcases new b o e with c | c
   ·rw [n] at c; cases c
   ·exact absurd (ycm (Heap.lt_size q) c) (yd3 _)
 ·obtain⟨m,q'⟩:=u.tbls b ps q
  exact⟨m,sub _ _ q'⟩
def MO(H:Hp)(S:Addr)(Ts:List Addr)(ns ms:List Int):Hp:=fun b=>if b=S then some (.lst (Ts.map V.ref)) else match Ts.findIdx? (fun T=>T == b) with
 | some j=>some (.tup [.int (ns.getD j 0), .int (ms.getD j 0)])
 | none=>H b
def tZipL(K:yc3)(t:TA):TE:=fun σ H Q=>t σ H fun vs H1=>∃(a b:Addr) (ns ms:List Int),vs= [.ref a, .ref b]∧SqL K H1 a (ns.map V.int)∧SqL K H1 b (ms.map V.int)∧ns.length≤1000∧∀(Ts:List Addr) (H3:Hp) (p:Addr),
 Ts.length=min ns.length ms.length→yg H1 H3→H3 p=some (.lst (Ts.map V.ref))→(∀(j:Nat) (T:Addr),Ts[j]? =some T→H3 T=some (.tup [.int (ns.getD j 0), .int (ms.getD j 0)]))→Q (.ref p) H3
theorem ybh{Ts:List Addr}{j:Nat}{T:Addr}(nd:Ts.Nodup)(h:Ts[j]? =some T):Ts.findIdx? (fun U=>U == T)=some j:=by
 rw [yfa]
 obtain⟨h1,h2⟩:=yc5.mp h
 refine⟨h1,by rw [h2]; simp,fun i hi e=> ?_⟩
 have e':Ts[i]=T:=by simpa using e
 have:=(yfz nd (i:=i) (j:=j)).mp (e'.trans h2.symm)
 omega
theorem y2e{e1:Expr}{e2:Expr}{t:TA}{p1 p2 pos1 pos2:Pos}(hc:X.calm=true)(hg1:Gl X "list")(hm1:X.mg "list" =none)(hg2:Gl X "zip")(hm2:X.mg "zip" =none)(ha:PA X [e1,e2] t)
  (hs1:starEach [.Call (.Name "zip" p2) [e1,e2] [] pos2] X.env= [(false,eval (.Call (.Name "zip" p2) [e1,e2] [] pos2) X.env)]:=by rfl) (hs2:starEach [e1,e2] X.env=(false,eval e1 X.env) :: starEach [e2] X.env:=by rfl)
  (hpl:(backTo pos2 (starEach [e2] X.env)).any (·.1)=false:=by rfl) :
  PE X (.Call (.Name "list" p1) [.Call (.Name "zip" p2) [e1,e2] [] pos2] [] pos1) (tZipL X.K t):=by
 intro pins s σ H Q I h
 refine Call_ (JP I hg1 hm1 boot_list (PyProof.Rows.callWith_type1 ?_ hs1 rfl))
 rw [hs1]
 refine Calls.spliced_cons (Call_ (JP I hg2 hm2 boot_zip (PyProof.Rows.callWith_type1 (thn (ha pos2 pins s σ H _ I h) fun us s1 ⟨vs,H1,I1,r1,a,b,ns,ms,ev,hqa,hqb,hn,q⟩=> ?_) hs2 hpl)))
 subst ev
 obtain⟨u1,u2,rfl,ra,rb⟩:=MT r1
 cases ra
 cases rb
 obtain⟨ia,va,pa,za⟩:=I1.list hqa
 obtain⟨ib,vb,pb,zb⟩:=I1.list hqb
 have la:=va.length
 have lb:=vb.length
 rw [yc2] at la lb
 have lta:a < s1.heap.objs.size:=let ⟨_,ho,_⟩:=pa.isList; Heap.lt_size ho
 have ltb:b < s1.heap.objs.size:=let ⟨_,ho,_⟩:=pb.isList; Heap.lt_size ho
 refine call_zip_2 pa.isList pb.isList fun h1 g1 g2 g3 g4 g5 g6 g7=>Calls.spliced_nil ?_
 have D:=zipApart_new lta ltb
 refine z9 (s:={s1 with heap:=h1}) g1 fun h2 c k sz hS=> ?_
 have sz1:h1.objs.size=s1.heap.objs.size + 5:=g6
 have ne:∀{b:Addr},b < h1.objs.size→b ≠ h1.objs.size:=fun q=>ycj q
 have up:∀b o,h1.get? b=some o→h2.get? b=some o:=fun b o q=>k b o (ne (Heap.lt_size q)) (Heap.get?_push_of_some _ q)
 have S0:h1.objs.size < h1.objs.size + 1:=yeh _
 have lt5:∀{i:Nat},i < 5→s1.heap.objs.size + i < h1.objs.size:=fun hi=>by rw [sz1]; exact Nat.add_lt_add_left hi _
 have lt6:∀{i:Nat},i < h1.objs.size→i < h1.objs.size + 1:=fun q=>ydi q
 have z0:s1.heap.objs.size < h1.objs.size:=by rw [sz1]; exact Nat.lt_add_of_pos_right (by decide)
 refine y7n (s:=s1) (z:=s1.heap.objs.size + 4) (TI:=s1.heap.objs.size + 2) (TO:=s1.heap.objs.size + 3) (i1:=s1.heap.objs.size) (i2:=s1.heap.objs.size + 1) (l1:=a) (l2:=b) (N:=h1.objs.size + 1) (S:=h1.objs.size) (xs:=ia.toArray) (ys:=ib.toArray) D (by show X.A.handled=none; exact I.ok.hd hc)
  ⟨lt6 (lt5 (by decide)),lt6 (lt5 (by decide)),lt6 (lt5 (by decide)),lt6 z0,lt6 (lt5 (by decide)),lt6 (ye1 lta z0),lt6 (ye1 ltb z0),S0⟩
  ⟨ydf (lt5 (by decide)),ydf (lt5 (by decide)),ydf (lt5 (by decide)),ydf z0,ydf (lt5 (by decide)),ydf (ye1 lta z0),ydf (ye1 ltb z0)⟩
  (by rw [yc7,yc7]; omega) (min ia.toArray.size ib.toArray.size) [] h2 c (yiw _) (yd9 _)
  ⟨⟨hS,fun j T q'=>(by simp at q'),fun T hT=>(by cases hT),yfd⟩, .inl ⟨rfl,up _ _ g1,_,_,up _ _ g3⟩,up _ _ g2,g4.at fun o q'=>up _ o q',g5.at fun o q'=>up _ o q',pa.isList.at fun o q'=>up _ o (g7 _ o q'),pb.isList.at fun o q'=>up _ o (g7 _ o q'),by rw [sz]; exact yc6 _⟩
  fun h3 Ts c3 Z hl keep=> ?_
 have lnew:∀{i:Nat},s1.heap.objs.size≤s1.heap.objs.size + i:=fun {i}=>ygm _ i
 have old:∀b o,s1.heap.get? b=some o→h3.get? b=some o:=fun x o q'=>by
  have lx:=Heap.lt_size q'
  have f:∀{i:Nat},x ≠ s1.heap.objs.size + i:=fun {i}=>ycj (ycm lx (ygm _ i))
  exact keep x o (lt6 (ye1 lx z0)) (ycj (ye1 lx z0)) f f (ycj lx) f (up _ o (g7 x o q'))
 have big:∀T ∈ Ts,s1.heap.objs.size≤T:=fun T hT=>ydw (yed (lt6 z0)) (Z.lo T hT)
 have hSn:∀T ∈ Ts,T ≠ h1.objs.size:=fun T hT=>ydf (ycm S0 (Z.lo T hT))
 have fresh:∀b,s1.heap.objs.size≤b→H1 b=none:=fun b hb=>I1.hok.fresh hb
 have hlen:Ts.length=min ns.length ms.length:=by rw [hl,yc7,yc7,la,lb]
 have at1:∀(j:Nat) (T:Addr),Ts[j]? =some T→MO H1 h1.objs.size Ts ns ms T=some (.tup [.int (ns.getD j 0), .int (ms.getD j 0)]):=fun j T hj=>by
  unfold MO
  rw [if_neg (hSn T (yce hj)),ybh Z.nd hj]
 have atS:MO H1 h1.objs.size Ts ns ms h1.objs.size=some (.lst (Ts.map V.ref)):=by unfold MO; rw [if_pos rfl]
 have sub:∀b o,H1 b=some o→MO H1 h1.objs.size Ts ns ms b=some o:=fun x o q'=>by
  unfold MO
  have nx:∀T,s1.heap.objs.size≤T→x ≠ T:=fun T hT e=>by rw [e,fresh T hT] at q'; cases q'
  rw [if_neg (nx _ (yed z0))]
  have:Ts.findIdx? (fun T=>T == x)=none:=by
   rw [yha]
   intro T hT
   have:=nx T (big T hT)
   simp
   exact fun e=>this e.symm
  rw [this]
  exact q'
 have back:∀b o,MO H1 h1.objs.size Ts ns ms b=some o→H1 b=some o∨(b=h1.objs.size∧o= .lst (Ts.map V.ref))∨∃j,Ts[j]? =some b∧o= .tup [.int (ns.getD j 0), .int (ms.getD j 0)]:=fun x o q'=>by
  unfold MO at q'
  split at q'
  ·rename_i e
   exact .inr (.inl ⟨e,(Option.some.inj q').symm⟩)
  ·split at q'
   ·rename_i j hj
    obtain⟨h5,h6,_⟩:=yfa.mp hj
    have h6':Ts[j]=x:=by simpa using h6
    exact .inr (.inr ⟨j,by rw [yc4 h5,h6'],(Option.some.inj q').symm⟩)
   ·exact .inl q'
 have pair:∀(j:Nat) (T:Addr),Ts[j]? =some T→∃t1 t2,IsPair h3 T (.int (ns.getD j 0) t1) (.int (ms.getD j 0) t2):=fun j T hj=>by
  obtain⟨x,y,ex,ey,e3⟩:=Z.prs j T hj
  rw [yef] at ex ey
  obtain⟨hx1,hx2⟩:=yc5.mp ex
  obtain⟨hy1,hy2⟩:=yc5.mp ey
  obtain⟨m1,t1,em1,e1'⟩:=int_at va hx1
  obtain⟨m2,t2,em2,e2'⟩:=int_at vb hy1
  refine⟨t1,t2, ?_⟩
  have n1:ns.getD j 0=m1:=by rw [ycc,em1]; rfl
  have n2:ms.getD j 0=m2:=by rw [ycc,em2]; rfl
  rw [n1,n2,←e1',←e2',hx2,hy2]
  exact e3
 refine⟨rfl, .ref h1.objs.size,MO H1 h1.objs.size Ts ns ms,I1.layAll (t':=s1.toks) old sub (fun x o q'=> ?_) (fun x o q'=> ?_),rfl,q Ts _ h1.objs.size hlen sub atS at1⟩
 ·rcases back x o q' with c1 | ⟨c1,_⟩ | ⟨j,c1,_⟩
  ·exact .inl c1
  ·exact .inr (by rw [c1]; exact yed z0)
  ·exact .inr (big x (yce c1))
 ·rcases back x o q' with c1 | ⟨c1,c2⟩ | ⟨j,c1,c2⟩
  ·exact(I1.hok x o c1).stay (fun c v _ q2=>old c v q2) (fun c q2=>sub _ _ q2) fun c xs q2=>sub _ _ q2
  ·subst c1 c2
   refine⟨by rw [yc2,sizeLine_eq]; omega,Ts.map Value.ref,c3, ?_,Z.lst⟩
   clear hlen at1 atS sub back pair big hSn hl Z keep q'
   induction Ts with
   | nil=>exact .nil
   | cons T Ts ih=>exact .cons rfl ih
  ·subst c2
   obtain⟨t1,t2,e3⟩:=pair j x c1
   exact⟨by show 2≤sizeLine; decide, [.int (ns.getD j 0) t1, .int (ms.getD j 0) t2], .cons ⟨t1,rfl⟩ (.cons ⟨t2,rfl⟩ .nil),_,e3,rfl,_,rfl⟩
end
end L2
namespace L2
open PySem PySem.Spec PyProof.Rows STab
def J9(P:Program)(w:World)(a:Addr)(L:List (List Int × Addr)):HO:= .ext fun h=>jG P w h a L
theorem zH{Lo:List (List Int × Addr)}:∀(xs acc:List (List Int × Addr)),Je Lo acc xs= []↔acc= []∧∀x ∈ xs,x.1 ∈ Lo.map (·.1)
 | [],acc=>by simp [Je]
 | x :: xs,acc=>by
  show Je Lo (if x.1 ∈ Lo.map (·.1) then acc else Jt acc x) xs= []↔_
  rw [zH xs]
  by_cases c:x.1 ∈ Lo.map (·.1)
  ·rw [if_pos c]
   constructor
   ·rintro⟨h1,h2⟩
    refine⟨h1,fun y hy=> ?_⟩
    rcases ycg.mp hy with e | e
    ·rw [e]; exact c
    ·exact h2 y e
   ·rintro⟨h1,h2⟩
    exact⟨h1,fun y hy=>h2 y (yc9 _ hy)⟩
  ·rw [if_neg c]
   constructor
   ·rintro⟨h1,_⟩
    have:x.1 ∈ (Jt acc x).map (·.1):=Wu.mpr (.inr rfl)
    rw [h1] at this
    cases this
   ·rintro⟨_,h2⟩
    exact absurd (h2 x yc8) c
section
variable{X:Cx}
theorem y21{P:Program}{w:World}{H:Hp}{h:Heap}{a:Addr}{k:List Int}(ok:HOk P w H h)(e:H a=some (.tup (k.map V.int))):(TK P w).is h k a:=by
 obtain⟨z0,its,r,o,h1,h2,n,h3⟩:=(show yR P w H h a (.tup (k.map V.int)) from ok a _ e)
 refine⟨o,its.toArray,n,h1,h2,h3, ?_⟩
 show ItemsAre _ k its
 clear e h3 h1 z0
 induction k generalizing its with
 | nil=>cases r; exact .nil
 | cons x k ih=>
  cases r with
  | cons rx rt=>
   obtain⟨t,rfl⟩:=rx
   exact .cons (intKind_is _ _ _ _) (ih _ rt)
def rSetT(P:Program)(w:World):List V→Hp→VK→Prop:=fun xs H Q=>∃(p:Addr) (as:List Addr) (ks:List (List Int)),xs= [.ref p]∧H p=some (.lst (as.map V.ref))∧Paired (fun a k=>H a=some (.tup (k.map V.int))) as ks∧ks.length≤75∧
 ∀L:List (List Int × Addr),(L.map (·.1)).Nodup→L.length≤ks.length→(∀k,k ∈ L.map (·.1)↔k ∈ ks)→(∀y ∈ L,H y.2=some (.tup (y.1.map V.int)))→∀q,H q=none→Q (.ref q) (upd H q (J9 P w q L))
theorem Lf(hc:X.calm=true)(hu:X.A.units + 8 < cLine):Jd X (.type "set") (rSetT X.prog X.w):=by
 intro pins s σ H xs us Q I r h
 obtain⟨p,as,ks,rfl,hp,ht,hn,q⟩:=h
 obtain⟨u,rfl,rx⟩:=jR r
 cases rx
 obtain⟨z,its,n,rv,e⟩:=(show yR X.prog X.w H s.heap p (.lst (as.map V.ref)) from I.hok p _ hp)
 have er:=Qz rv
 subst er
 have hl:=Paired.length ht
 have val:∀(i:Nat) (v:Value),(as.map Value.ref).toArray[i]? =some v→v= .ref (as.getD i 0)∧(TK X.prog X.w).is s.heap (ks.getD i []) (as.getD i 0)∧ks[i]? =some (ks.getD i [])∧H (as.getD i 0)=some (.tup ((ks.getD i []).map V.int)):=fun i v hv=>by
  rw [yef,yca] at hv
  cases ha:as[i]? with
  | none=>rw [ha] at hv; cases hv
  | some a=>
   rw [ha] at hv
   obtain⟨k,hk,hH⟩:=Toy.paired_at ht ha
   have e1:as.getD i 0=a:=by rw [ycc,ha]; rfl
   have e2:ks.getD i []=k:=by rw [ycc,hk]; rfl
   rw [e1,e2]
   exact⟨(Option.some.inj hv).symm,y21 I.hok hH,hk,hH⟩
 have some_at:∀i,i < (as.map Value.ref).toArray.size→∃v,(as.map Value.ref).toArray[i]? =some v:=fun i hi=>⟨_,ydj hi⟩
 refine y05 (its:=(as.map Value.ref).toArray) (val:=fun i=>(ks.getD i [],as.getD i 0)) (I.ok.hd hc) ⟨_,e,rfl,n,rfl⟩ (fun i v hv=>⟨(val i v hv).1,(val i v hv).2.1⟩) (by rw [yc7,yc2]; omega) (by omega) fun h' tk L a1 a2 a3 a4 a5 a6 a7=> ?_
 rw [yc7,yc2] at a4
 refine⟨.ref s.heap.objs.size,_,I.laid (a:=s.heap.objs.size) (o:=J9 X.prog X.w s.heap.objs.size L) (t':=tk) a7 (yc6 _) ⟨a1, ?_, ?_⟩,rfl,q L a3 (by omega) (fun k=> ?_) (fun y hy=> ?_) _ (I.hok.fresh (yc6 _))⟩
 ·obtain⟨o,_,_,_,ho,_⟩:=a1
  exact⟨o,ho⟩
 ·intro h1 h2 x k
  exact x.stay k
 ·rw [a5 k]
  constructor
  ·rintro⟨j,hj,rfl⟩
   obtain⟨v,hv⟩:=some_at j hj
   exact yce (val j v hv).2.2.1
  ·intro m
   obtain⟨j,hj⟩:=yd1.mp m
   have:=(yc5.mp hj).1
   exact⟨j,by rw [yc7,yc2]; omega,by show ks.getD j []=k; rw [ycc,hj]; rfl⟩
 ·obtain⟨j,hj,rfl⟩:=a6 y hy
  obtain⟨v,hv⟩:=some_at j hj
  exact(val j v hv).2.2.2
def rSubT(P:Program)(w:World):R2:=fun x y H Q=>∃(a c:Addr) (La Lc:List (List Int × Addr)),x= .ref a∧y= .ref c∧H a=some (J9 P w a La)∧H c=some (J9 P w c Lc)∧(∀y ∈ La,H y.2=some (.tup (y.1.map V.int)))∧(∀y ∈ Lc,H y.2=some (.tup (y.1.map V.int)))∧
 La.length≤75∧La.length / 4≤Lc.length∧∀xs:List (List Int × Addr),xs.Perm La→∀r,H r=none→Q (.ref r) (upd H r (J9 P w r (Je Lc [] xs)))
theorem QY:entryFor table "set.__sub__" =some Builtin.«frozenset.__sub__»:=entryFor_alias (id':="frozenset.__sub__") (by kernel_rfl) (by first | rfl | decide +kernel) (by decide +kernel) (by kernel_rfl)
theorem y4f:fillsNumberSlot (.type "set") "sub" =pure true:=by kernel_rfl
theorem y8v(hu:X.A.units + 8 < cLine):OpR X (binaryOp .Sub) (rSubT X.prog X.w):=by
 intro pins s σ H x y v u Q I rx ry h
 obtain⟨a,c,La,Lc,rfl,rfl,hA,hC,tA,tC,hl,hs,q⟩:=h
 cases rx
 cases ry
 obtain⟨pA,_,_⟩:=(show yR X.prog X.w H s.heap a (J9 X.prog X.w a La) from I.hok a _ hA)
 obtain⟨pC,_,_⟩:=(show yR X.prog X.w H s.heap c (J9 X.prog X.w c Lc) from I.hok c _ hC)
 obtain⟨oa,ea,epa,ta,hoa,hxa,hda,_⟩:=id pA
 obtain⟨oc,ec,epc,tc,hoc,hxc,hdc,_⟩:=id pC
 have TA:s.TypeIs (.ref a) "set":=⟨oa,hoa,hxa.1⟩
 have TC:s.TypeIs (.ref c) "set":=⟨oc,hoc,hxc.1⟩
 refine wpAny_binaryOp_same TA TC y4f yij (wpAny_call_entry yij TA QY ?_ (PySem.F.args_set_sub_2 _ _))
 show wpAny _ _ (Builtin.Frozenset.slot1 "__sub__" ⟨[.ref a, .ref c], []⟩ >>= _) _ _ _
 refine wpAny_bind (wpAny_of_eq (a:=(Value.ref a,Value.ref c)) rfl ?_)
 dsimp only
 simp only [ydo,if_false]
 unfold Builtin.Frozenset.isAnySet
 refine wpAny_bind (wpAny_bind (wpAny_bind (Lk hoa hxa (wpAny_pure ?_))))
 refine wpAny_bind (Lk hoc hxc (wpAny_pure ?_))
 rw [if_neg (by decide)]
 refine wpAny_bind (wpAny_pure ?_)
 refine wpAny_bind (y4e pA pC (fun y hy=>y21 I.hok (tA y hy)) (fun y hy=>y21 I.hok (tC y hy)) hl hs (by show X.A.units + 1 < cLine; omega) fun h' xs hp hS hk=> ?_)
 refine wpAny_pure ⟨_,rfl,(by intro e; cases e), ?_⟩
 refine⟨.ref s.heap.objs.size,_,I.laid (a:=s.heap.objs.size) (o:=J9 X.prog X.w s.heap.objs.size (Je Lc [] xs)) (t':=s.toks) hk (yc6 _) ⟨hS, ?_, ?_⟩,rfl,q xs hp _ (I.hok.fresh (yc6 _))⟩
 ·obtain⟨o,_,_,_,ho,_⟩:=hS
  exact⟨o,ho⟩
 ·intro h1 h2 x k
  exact x.stay k
def rLenT(P:Program)(w:World):List V→Hp→VK→Prop:=fun xs H Q=>∃(p:Addr) (L:List (List Int × Addr)),xs= [.ref p]∧H p=some (J9 P w p L)∧L.length≤1000∧Q (.int (L.length:Nat)) H
theorem z8:Jd X (.builtin "len") (rLenT X.prog X.w):=by
 intro pins s σ H xs us Q I r h
 obtain⟨p,L,rfl,hp,hl,q⟩:=h
 obtain⟨u,rfl,rx⟩:=jR r
 cases rx
 obtain⟨⟨o,es,ep,t,ho,hx,hd,hperm,T,_⟩,_,_⟩:=(show yR X.prog X.w H s.heap p (J9 X.prog X.w p L) from I.hok p _ hp)
 have hsz:es.size=L.length:=by rw [←ycn,hperm.length_eq,yc2]
 exact call_len_set ho hx hd T.fits (by omega) ⟨.int (L.length:Nat),H,I.tok _,⟨s.toks + 1,by rw [hsz]⟩,q⟩
def rLenI(P:Program)(w:World):List V→Hp→VK→Prop:=fun xs H Q=>∃(p:Addr) (ks:List Int),xs= [.ref p]∧H p=some (Ma P w p ks)∧ks.length≤1000∧Q (.int (ks.length:Nat)) H
theorem z4:Jd X (.builtin "len") (rLenI X.prog X.w):=by
 intro pins s σ H xs us Q I r h
 obtain⟨p,ks,rfl,hp,hl,q⟩:=h
 obtain⟨u,rfl,rx⟩:=jR r
 cases rx
 obtain⟨⟨o,es,ep,t,ho,hx,hd,hel,hperm,T,_⟩,_,_⟩:=(show yR X.prog X.w H s.heap p (Ma X.prog X.w p ks) from I.hok p _ hp)
 have hsz:es.size=ks.length:=by rw [←ycn,←hperm.length_eq,yc2]
 exact call_len_set ho hx hd T.fits (by omega) ⟨.int (ks.length:Nat),H,I.tok _,⟨s.toks + 1,by rw [hsz]⟩,q⟩
end
end L2
namespace L2
open PySem PySem.Spec PyProof.Rows
section
variable{P:Program}{w:World}{H:Hp}{h h':Heap}{T:Addr}{ps more:Array Value}{fs ex:List Addr}
theorem HOk.grow(x:HOk P w H h)(hT:H T=some (.tbl ps))(k:∀b o,b ≠ T→h.get? b=some o→h'.get? b=some o)(hT':h'.get? T=some {cls:= .none,data:= .fields (ps ++ more)}):HOk P w (upd H T (.tbl (ps ++ more))) h':=fun b u e=>by
 by_cases hb:b=T
 ·subst hb; rw [y6] at e; cases e; exact hT'
 ·rw [yi hb] at e
  refine(x b u e).stay (fun c v hc q=>k c v ?_ q) (fun c q=> ?_) fun c xs q=> ?_
  ·rcases hc with rfl | hc
   ·exact hb
   ·rintro rfl; rw [hT] at hc; cases hc
  ·rw [yi (by rintro rfl; rw [hT] at q; cases q)]; exact q
  ·rw [yi (by rintro rfl; rw [hT] at q; cases q)]; exact q
theorem Un.grow(hT:H T=some (.tbl ps))(k:∀b o,b ≠ T→h.get? b=some o→h'.get? b=some o)(hT':h'.get? T=some {cls:= .none,data:= .fields (ps ++ more)}):Un fs ex H (upd H T (.tbl (ps ++ more))) h h':=by
 have hn:∀b,H b=none→b ≠ T:=fun b n z=>by rw [z,hT] at n; cases n
 refine⟨fun b o e n _ _=>k b o (hn b n) e,fun b o e n _ _=>⟨o.slots,k b o (hn b n) e⟩,fun b o e n _=>by rw [yi (hn b n)]; exact n,fun b o e _=> ?_,fun b xs q=> ?_,fun b o u q=> ?_,fun b qs q=> ?_⟩
 ·by_cases hb:b=T
  ·rw [hb]; exact⟨_,hT'⟩
  ·exact⟨o,k b o hb e⟩
 ·rw [yi (by rintro rfl; rw [hT] at q; cases q)]; exact q
 ·rw [yi (by rintro rfl; rw [hT] at q; cases q)]; exact q
 ·by_cases hb:b=T
  ·subst hb
   rw [hT] at q; cases q
   exact⟨more,y6⟩
  ·exact⟨#[],by rw [yi hb,q]; simp⟩
end
def Y7(H:Hp)(T:Addr)(pos:Pos)(q:Str):Prop:=
 ∃ps:Array Value,H T=some (.tbl ps)∧TriplesOk ps.toList∧(codeAmong pos ps.toList=none∨∃c,codeAmong pos ps.toList=some (.ref c)∧H c=some (.ext fun h=>h.CodeRec (.ref c) q))
def VB(T:Addr)(H H':Hp):Prop:=∀b u,b ≠ T→H b=some u→H' b=some u
theorem VB.refl{T:Addr}{H:Hp}:VB T H H:=fun _ _ _ e=>e
theorem Y7.same{H H':Hp}{T:Addr}{pos:Pos}{q:Str}(x:Y7 H T pos q)(s:∀b u,H b=some u→H' b=some u):Y7 H' T pos q:=by
 obtain⟨ps,h1,h2,h3⟩:=x
 refine⟨ps,s _ _ h1,h2,h3.imp id ?_⟩
 rintro⟨c,e1,e2⟩
 exact⟨c,e1,s _ _ e2⟩
theorem Z7{h h':Heap}{v:Value}{q:Str}(x:h.CodeRec v q)(k:∀b o,h.get? b=some o→h'.get? b=some o):h'.CodeRec v q:=by
 obtain⟨c,o,vs,t,e,ho,r⟩:=x
 exact⟨c,o,vs,t,e,k _ _ ho,r⟩
section
variable{X:Cx}{pins:List (Addr × Obj)}{σ:St}{H:Hp}{s:Shared}
theorem y7d{params:Arguments}{body:Expr}{scope:Scope}{pos:Pos}{c T:Addr}{Q:Value→Shared→Prop}{E:Value→Shared→Prop}(I:Inv X pins σ H s)(hcode:X.env.code= .ref c)(hC:yej X.base c T)
  (hB:X.base.BuiltinsAt X.mg T) (hfr:∀p ∈ scope.names,p.2= .free→X.env.kindOf p.1=some .cell∨X.env.kindOf p.1=some .free) (hdef:defaultsOf params X.env=([], [])) (hT:Y7 H T pos (X.env.qual ++ "<lambda>"))
  (h:∀f c' ctv H' s',Inv X pins σ H' s'→s'.heap.get? f=some (yev "<lambda>" (X.env.qual ++ "<lambda>") params body scope (jw scope X.env) ((X.mg "__name__").getD .none) c' ctv)→s'.heap.CodeRec (.ref c') (X.env.qual ++ "<lambda>")→
   H' f=none→Y7 H' T pos (X.env.qual ++ "<lambda>")→VB T H H'→s'.heap.objs.size=f + 1→Q (.ref f) s') :
  wpAny (model X.prog X.w) X.A (eval (.Lambda params body scope pos) X.env) Q E s:=by
 have hclos:closureFor scope X.env=pure (jw scope X.env):=MQ fun p hp e=>I.ok.has p.1 (hfr p hp e)
 obtain⟨ps,hP,htr,hk⟩:=hT
 have hPh:s.heap.get? T=some {cls:= .none,data:= .fields ps}:=I.hok T _ hP
 have hg:s.heap.Ns mainGlobals X.mg:=I.mod.glob.keeps I.bk
 have hgP:mainGlobals ≠ T:=fun q=>by
  obtain⟨o,es,ep,e,hd,_⟩:=hg
  rw [q,hPh] at e; cases e; cases hd
 have hb:s.heap.BuiltinsAt X.mg T:=by
  obtain⟨bm,ob,b1,b2,b3,b4,b5,b6⟩:=hB
  exact⟨bm,ob,b1,b2,b3,b4,I.bk _ _ b5,b6⟩
 refine PySem.W.kla_eval hdef ?_
 rcases hk with hk | ⟨c',hk,hc'⟩
 ·refine PySem.W.kla_makeFunction (mg:=X.mg) hclos I.ok.glob hg hcode (hC.keeps I.bk) hPh htr hk hgP hb fun c' ctv h' tk hx hge hlt hrec htb=> ?_
  have kx:∀b o,b ≠ T→s.heap.get? b=some o→(h'.push (yev "<lambda>" (X.env.qual ++ "<lambda>") params body scope (jw scope X.env) ((X.mg "__name__").getD .none) c' ctv)).get? b=some o:=fun b o hb e=>Heap.get?_push_of_some _ (hx b o hb e)
  have htb':=Heap.get?_push_of_some (yev "<lambda>" (X.env.qual ++ "<lambda>") params body scope (jw scope X.env) ((X.mg "__name__").getD .none) c' ctv) htb
  have hrec':=Z7 hrec fun b o e=>Heap.get?_push_of_some (yev "<lambda>" (X.env.qual ++ "<lambda>") params body scope (jw scope X.env) ((X.mg "__name__").getD .none) c' ctv) e
  have hTlt:T < s.heap.objs.size:=Heap.lt_size hPh
  have cT:c' ≠ T:=fun z=>absurd (ycm hTlt hge) (by rw [z]; exact yd3 _)
  have hn:(upd H T (.tbl (ps ++ #[rawInt pos.line,rawInt pos.col, .ref c']))) c'=none:=by rw [yi cT]; exact I.hok.fresh hge
  have ok1:=HOk.grow (more:=#[rawInt pos.line,rawInt pos.col, .ref c']) I.hok hP kx htb'
  have new:yR X.prog X.w (upd (upd H T (.tbl (ps ++ #[rawInt pos.line,rawInt pos.col, .ref c']))) c' (.ext fun h=>h.CodeRec (.ref c') (X.env.qual ++ "<lambda>"))) (h'.push (yev "<lambda>" (X.env.qual ++ "<lambda>") params body scope (jw scope X.env) ((X.mg "__name__").getD .none) c' ctv)) c'
    (.ext fun h=>h.CodeRec (.ref c') (X.env.qual ++ "<lambda>")):=by
   refine⟨hrec', ?_,fun h1 h2 p k=> ?_⟩
   ·obtain⟨c2,o,vs,t,e,ho,_⟩:=hrec'
    cases e
    exact⟨o,ho⟩
   ·obtain⟨c2,o,vs,t,e,ho,r⟩:=p
    cases e
    exact⟨c',o,vs,t,rfl,k o ho,r⟩
  refine h h'.objs.size c' ctv (upd (upd H T (.tbl (ps ++ #[rawInt pos.line,rawInt pos.col, .ref c']))) c' (.ext fun h=>h.CodeRec (.ref c') (X.env.qual ++ "<lambda>"))) _ (I.un ((Un.grow hP kx htb').track hn hge) (HOk.track ok1 hn new)) (Heap.get?_push_size _ rfl) hrec' ?_ ?_ ?_ (Heap.size_push _ _)
  ·rw [yi (ydf hlt),yi (ydf (ye1 (ycm hTlt hge) hlt))]
   exact I.hok.fresh (ydw hge (yed hlt))
  ·refine⟨_,by rw [yi (Ne.symm cT)]; exact y6, ?_, .inr ⟨c', ?_,y6⟩⟩
   ·rw [yiq]
    exact TriplesOk_snoc _ _ _ _ htr
   ·rw [yiq]
    exact codeAmong_snoc _ htr hk
  ·intro b u nb e
   rw [yi (fun z=>by rw [z,I.hok.fresh hge] at e; cases e),yi nb]
   exact e
 ·have hrec:s.heap.CodeRec (.ref c') (X.env.qual ++ "<lambda>"):=(I.hok c' _ hc').1
  refine PySem.W.kla_makeFunctionHit (mg:=X.mg) hclos I.ok.glob hg hcode (hC.keeps I.bk) hPh htr hk hb fun ctv h' tk hkp hsz=> ?_
  have kx:∀b o,s.heap.get? b=some o→(h'.push (yev "<lambda>" (X.env.qual ++ "<lambda>") params body scope (jw scope X.env) ((X.mg "__name__").getD .none) c' ctv)).get? b=some o:=fun b o e=>Heap.get?_push_of_some _ (hkp b o e)
  exact h h'.objs.size c' ctv H _ (I.kept kx) (Heap.get?_push_size _ rfl) (Z7 hrec kx) (I.hok.fresh hsz) ⟨ps,hP,htr, .inr ⟨c',hk,hc'⟩⟩ VB.refl (Heap.size_push _ _)
end
section
variable{X:Cx}{pins:List (Addr × Obj)}{σ:St}{H:Hp}{s:Shared}
theorem Inv.butL{h':Heap}{t':Nat}{m:Str→Option Value}(I:Inv X pins σ H s)(hm:s.heap.Ns X.env.locals m)(hm':h'.Ns X.env.locals m)(k:∀b o,b ≠ X.env.locals→s.heap.get? b=some o→h'.get? b=some o) :
  Inv X pins σ H {s with heap:=h',toks:=t'}:=by
 have nL:∀b u,H b=some u→b ≠ X.env.locals:=fun b u e z=>by rw [z,I.free] at e; cases e
 refine I.step (g':=s.gens) (d':=s.drawn) (ch:= []) (fun _ z=>nomatch z) (fun b o hb _ _ e _=>k b o hb e) (fun b o hb _ _ e _=>⟨o.slots,k b o hb e⟩) (fun _ _ _ _ n=>n) (fun b o _ e=> ?_) (fun _ _ e=>e) (fun _ _ _ e=>e) (fun b ps e=>⟨#[],by rw [e]; simp⟩) (fun m' hn=> ?_) (fun b u e=> ?_) I.bare
 ·by_cases hb:b=X.env.locals
  ·obtain⟨o',_,_,e',_⟩:=hm'
   exact⟨o',by rw [hb]; exact e'⟩
  ·exact⟨o,k b o hb e⟩
 ·have em:m'=m:=by
   obtain⟨o1,es1,ep1,e1,d1,_,f1⟩:=hn
   obtain⟨o2,es2,ep2,e2,d2,_,f2⟩:=hm
   rw [e1] at e2; cases e2
   rw [d1] at d2; cases d2
   funext x
   rw [←f1 x,←f2 x]
  rw [em]; exact hm'
 ·refine(I.hok b u e).stay (fun c v hc q=>k c v ?_ q) (fun _ q=>q) fun _ _ q=>q
  rcases hc with z | z
  ·rw [z]; exact nL b u e
  ·exact nL c _ z
theorem Inv.track{a:Addr}{o:HO}(I:Inv X pins σ H s)(hn:H a=none)(hp:X.s₀.heap.objs.size≤a)(hL:a ≠ X.env.locals)(hc:∀x c,X.env.cells.lookup x=some c→c ≠ a)(hpn:∀p ∈ X.pn ++ pins,p.1 ≠ a)
  (new:yR X.prog X.w (upd H a o) s.heap a o):Inv X pins σ (upd H a o) s:=
 ⟨I.ok,I.os,I.bare,I.base.track hn hp,I.loc,I.cell,by rw [yi (Ne.symm hL)]; exact I.free,fun x c e=>by rw [yi (hc x c e)]; exact I.freeC x c e,fun p hp=>by
  obtain⟨e,n,r⟩:=I.pin p hp
  exact⟨e,by rw [yi (hpn p hp)]; exact n,r⟩,HOk.track I.hok hn new,I.len⟩
end
structure LamSc (scope:Scope) (x y:Str):Prop where
 cell:∀z ∈ scope.names,z.2 ≠ .cell
 kind:scope.kind= .function
 co:scope.isCoroutine=false
 gen:scope.isGenerator=false
 xl:scope.names.lookup x=some .local
 yf:scope.names.lookup y=some .free
 gl:scope.names.lookup ("len" :Str)=some .globalImplicit
 dx:(x == ("__debug__" :Str))=false
 dy:(y == ("__debug__" :Str))=false
 cy:(y == ("__classdict__" :Str))=false
section
variable{prog:Program}{w:World}{A:Around}{s:Shared}
end
end L2
namespace L2
open PySem PySem.Spec PyProof.Rows
theorem SqL.sameT{K:yc3}{H H':Hp}{T a:Addr}{ps:Array Value}{xs:List V}(h:SqL K H a xs)(hT:H T=some (.tbl ps))(s:VB T H H'):SqL K H' a xs:=by
 rcases h with(h | ⟨o,h⟩) | h
 ·exact .inl (.inl (s a _ (by rintro rfl; rw [hT] at h; cases h) h))
 ·exact .inl (.inr ⟨o,s a _ (by rintro rfl; rw [hT] at h; cases h) h⟩)
 ·exact .inr h
end L2
namespace L2
open PySem PySem.Spec PyProof.Rows
def J7(K:yc3)(T:Addr):yc3:=K.filter fun p=>p.1 != T
theorem ZQ{T b:Addr}(h:b ≠ T):∀(K:yc3),(J7 K T).lookup b=K.lookup b
 | []=>rfl
 | (a,o) :: r=>by
  have ih:=ZQ h r
  unfold J7 at ih ⊢
  rw [ydb]
  by_cases e:a=T
  ·have e1:((a,o).1 != T)=false:=by simp [e]
   have e2:(b == a)=false:=by simp [e,h]
   rw [e1,ydl,e2]
   simpa using ih
  ·have e1:((a,o).1 != T)=true:=by simp [e]
   rw [e1]
   simp only [if_true,ydl]
   cases b == a with
   | true=>rfl
   | false=>exact ih
theorem y1f{T:Addr}:∀(K:yc3),(J7 K T).lookup T=none
 | []=>rfl
 | (a,o) :: r=>by
  have ih:=@y1f T r
  unfold J7 at ih ⊢
  rw [ydb]
  by_cases e:a=T
  ·have e1:((a,o).1 != T)=false:=by simp [e]
   rw [e1]
   simpa using ih
  ·have e1:((a,o).1 != T)=true:=by simp [e]
   have e2:(T == a)=false:=by simp [Ne.symm e]
   rw [e1]
   simp only [if_true,ydl,e2]
   exact ih
theorem y0u{K:yc3}{hp:Heap}{T b:Addr}{o u:Obj}(KX:K.In hp)(hT:hp.get? T=some o)(h:K.lookup b=some u)(ne:u ≠ o):(J7 K T).lookup b=some u:=by
 rw [ZQ (fun e=>ne (by rw [e] at h; have q:=KX _ _ h; rw [hT] at q; exact(Option.some.inj q).symm))]
 exact h
theorem Fun.cut{K:yc3}{T:Addr}{x qual:Str}{st:Stmt}{f:Addr}{fd:FuncData}{hp:Heap}(F:Fun K x qual st f fd)(KX:K.In hp)(hT:hp.get? T=some (yfy #[])):Fun (J7 K T) x qual st f fd:=by
 obtain⟨⟨oc,od,kV,doc,pm,an,cdv,ct,osl,e,lk,hcd⟩,kp⟩:=F
 have lk':(J7 K T).lookup f=some ⟨oc,od, .func fd,osl⟩:=y0u KX hT lk (fun z=>by cases z)
 refine⟨⟨oc,od,kV,doc,pm,an,cdv,ct,osl,e,lk', ?_⟩, ?_⟩
 ·unfold ycl at hcd ⊢
  cases cdv with
  | ref c=>
   simp only at hcd ⊢
   cases hc:K.lookup c with
   | none=>rw [hc] at hcd; cases hcd
   | some o=>
    rw [y0u (u:=o) KX hT hc (fun z=>by rw [hc,z] at hcd; simp at hcd)]
    rw [hc] at hcd
    exact hcd
  | _=>exact hcd
 ·unfold yck
  simp only [lk']
theorem y47{P:Program}{w:World}{K:yc3}{mg mb:Str→Option Value}{CX:CXT}{k:Nat}{fa a c T:Addr}{fd:FuncData}{x:Str}{sp:Sp}{s₁:Shared}{vs:List Value}{ns:List Int}
  (KX:K.In s₁.heap) (hTh:s₁.heap.get? T=some (yfy #[])) (hC:yej s₁.heap c T) (hbm:∃bm ob,mg "__builtins__" =some (.ref bm)∧bm ≠ builtinsNs∧s₁.heap.get? bm=some ob∧ob.cls= .type "module"∧ob.dict=some builtinsNs∧ob.data= .plain)
  (hns:s₁.heap.Ns mainGlobals mg) (hb:s₁.heap.Ns builtinsNs mb) (hbb:∀x:Str,x ≠ "__name__"→mb x=bootBuiltins x) (hlim:s₁.heap.NoLimit) (hg:s₁.gens=#[])
  (ha:s₁.heap.get? a=some {cls:= .type "list",data:= .seq vs.toArray}) (hi:IntsAre vs ns) (hl:ns.length≤sizeLine) (hr:Room k callerA)
  (F:∀base:Heap,(J7 K T).In base→base.Ns mainGlobals mg→yej base c T→base.BuiltinsAt mg T→FnOk P w (J7 K T) mg base CX k fa fd [x] sp) (hbind:∀(s:Shared) (u:Value),BindsTo s fd ⟨[u], []⟩ [(x,u)])
  (hsp:∀H:Hp,H T=some (.tbl #[])→SqL (J7 K T) H a (ns.map V.int)→sp [.ref a] H (fun v _=>v= .bl true) fun _ _ _=>False)
  (hCX:∀H e s',CX [] H s₁ (fun _ _ _=>False) e s'→False) :
  codeAny (model P w) callerA (.call (.ref fa) ⟨[.ref a], []⟩) (fun r s'=>r= .ok (.ret (.bool true))∧OldK s₁.heap s'.heap∧s'.os=s₁.os∧AllBare s'.gens) s₁:=by
 have rv:=xG hi
 have lenV:=hi.length
 have aT:a ≠ T:=fun z=>by rw [z,hTh] at ha; cases ha
 have core:∀H:Hp,H T=some (.tbl #[])→SqL (J7 K T) H a (ns.map V.int)→HOk P w H s₁.heap→(∀b,H b ≠ none→b=T∨(b=a∧∃o xs,H b=some (.frz o (.lst xs))))→(H a ≠ none→K.lookup a=none)→
   codeAny (model P w) callerA (.call (.ref fa) ⟨[.ref a], []⟩) (fun r s'=>r= .ok (.ret (.bool true))∧OldK s₁.heap s'.heap∧s'.os=s₁.os∧AllBare s'.gens) s₁:=by
  intro H hHT hS hok hA hK
  have base_of:∀{b:Addr} {o:Obj},s₁.heap.get? b=some o→H b=none→(LW s₁.heap H).get? b=some o:=fun e n=>y5v e n
  have other:∀{b:Addr} {o:Obj},s₁.heap.get? b=some o→o.cls ≠ .none→o.cls ≠ .type "list"∨(∀xs n,o.data ≠ .seq xs n)→H b=none:=fun {b o} e c1 c2=>by
   cases q:H b with
   | none=>rfl
   | some u=>
    exfalso
    rcases hA b (by rw [q]; simp) with z | ⟨z,_⟩
    ·rw [z,hTh] at e; cases e; exact c1 rfl
    ·rw [z,ha] at e; cases e
     rcases c2 with c2 | c2
     ·exact c2 rfl
     ·exact c2 _ _ rfl
  have noD:∀{b:Addr} {o:Obj} {es:Array DictEntry} {ep:Nat},s₁.heap.get? b=some o→o.data= .dict es ep→H b=none:=fun {b o es ep} e d=>by
   cases q:H b with
   | none=>rfl
   | some u=>
    exfalso
    rcases hA b (by rw [q]; simp) with z | ⟨z,_⟩
    ·rw [z,hTh] at e; cases e; cases d
    ·rw [z,ha] at e; cases e; cases d
  have nsK:∀{b:Addr} {m:Str→Option Value},s₁.heap.Ns b m→(LW s₁.heap H).Ns b m:=fun {b m} ⟨o,es,ep,e,d,r⟩=>⟨o,es,ep,base_of e (noD e d),d,r⟩
  have hKb:(J7 K T).In (LW s₁.heap H):=fun b o e=>by
   have bT:b ≠ T:=fun z=>by rw [z,y1f] at e; cases e
   rw [ZQ bT] at e
   refine base_of (KX b o e) ?_
   cases q:H b with
   | none=>rfl
   | some u=>
    exfalso
    rcases hA b (by rw [q]; simp) with z | ⟨z,_⟩
    ·exact bT z
    ·subst z
     rw [hK (by rw [q]; simp)] at e; cases e
  have hM:Mod (J7 K T) mg (LW s₁.heap H):=⟨hKb,nsK hns,⟨mb,nsK hb,hbb⟩,let ⟨mc,h1,h2⟩:=hlim; ⟨mc,nsK h1,h2⟩⟩
  have e0:Env0 P w (J7 K T) mg (LW s₁.heap H) callerA [] s₁ H:=⟨rfl,hM,fun b o e=>y8x e,Nat.le_of_eq (y54 _ _),trivial,fun b hb=>absurd (show b ∈ ([]:List Addr) from hb) (by simp),hok, .of_eq hg⟩
  have hCb:yej (LW s₁.heap H) c T:=by
   obtain⟨o,us,file,tf,flags,tg,inF,text,tt,e1,e2,r⟩:=hC
   exact⟨o,us,file,tf,flags,tg,inF,text,tt,base_of e1 (other e1 (by rw [e2]; simp) (.inl (by rw [e2]; simp))),e2,r⟩
  have hBb:(LW s₁.heap H).BuiltinsAt mg T:=by
   obtain⟨bm,ob,b1,b2,b3,b4,b5,b6⟩:=hbm
   refine⟨bm,ob,b1,b2,fun z=> ?_,fun z=> ?_,base_of b3 (other b3 (by rw [b4]; simp) (.inl (by rw [b4]; simp))),b4,b5,b6⟩
   ·obtain⟨o,es,ep,e,d,_⟩:=hns
    rw [z,e] at b3; cases b3; rw [d] at b6; cases b6
   ·rw [z,hTh] at b3; cases b3; cases b4
  refine codeAny_mono ((F _ hKb (nsK hns) hCb hBb).run callerA [] s₁ H ⟨[.ref a], []⟩ [.ref a] [.ref a] _ _ hr e0 (hbind s₁ (.ref a)) (.cons rfl .nil) (hsp H hHT hS)) fun r s' h=> ?_
  cases r with
  | error e=>exact(hCX H e s' h).elim
  | ok fl=>
   cases fl with
   | next=>exact False.elim h
   | brk=>exact False.elim h
   | cont=>exact False.elim h
   | ret u=>
    obtain⟨v,H',os,bare,un,hok',r',q⟩:=h
    have q':v= .bl true:=q
    subst q'
    obtain rfl:u=Value.bool true:=r'
    have tab:∃more:Array Value,s'.heap.get? T=some {cls:= .none,data:= .fields (#[] ++ more)}:=by
     obtain⟨more,e⟩:=un.tbls T _ hHT
     exact⟨more,hok' T _ e⟩
    refine⟨rfl,⟨fun b o e=> ?_,fun b o e=>un.there b o e (by simp)⟩,os,bare⟩
    cases q:H b with
    | none=>exact .inl (un.keep b o e q (by intro z; exact absurd (show b ∈ ([]:List Addr) from z) (by simp)) (by simp))
    | some u=>
     rcases hA b (by rw [q]; simp) with z | ⟨_,ob,xs,z⟩
     ·subst z
      obtain⟨more,e3⟩:=tab
      rw [hTh] at e; cases e
      exact .inr (.inl ⟨(hC.tab hTh).isCodeTable,rfl,#[],more,rfl,e3⟩)
     ·have z2:=un.frzs b ob _ z
      obtain⟨e1,_⟩:=hok b _ z
      obtain⟨e2,_⟩:=hok' b _ z2
      rw [e] at e1; cases e1
      exact .inl e2
 cases hk:K.lookup a with
 | some o=>
  have e:=KX a o hk
  rw [ha] at e
  cases e
  refine core (fun b=>if b=T then some (.tbl #[]) else none) (if_pos rfl) (.inr ⟨_,vs.toArray,_,(ZQ aT K).trans hk,rfl,rfl,rfl,by rw [yc7,lenV]; exact hl,by simpa using rv⟩) (fun b u z=> ?_) (fun b z=> ?_) fun z=>absurd (if_neg aT) z
  ·by_cases hb:b=T
   ·subst hb
    have z':=(if_pos rfl).symm.trans z
    cases z'
    exact hTh
   ·exact absurd ((if_neg hb).symm.trans z) (by simp)
  ·by_cases hb:b=T
   ·exact .inl hb
   ·exact absurd (if_neg hb) z
 | none=>
  refine core (fun b=>if b=T then some (.tbl #[]) else if b=a then some (.frz {cls:= .type "list",data:= .seq vs.toArray} (.lst (ns.map V.int))) else none) (if_pos rfl)
   (.inl (.inr ⟨{cls:= .type "list",data:= .seq vs.toArray},(if_neg aT).trans (if_pos rfl)⟩)) (fun b u z=> ?_) (fun b z=> ?_) fun _=>hk
  ·by_cases hb:b=T
   ·subst hb
    have z':=(if_pos rfl).symm.trans z
    cases z'
    exact hTh
   ·have z1:=(if_neg hb).symm.trans z
    by_cases hb2:b=a
    ·have z':=(if_pos hb2).symm.trans z1
     cases z'
     subst hb2
     exact⟨ha,by rw [yc2]; exact hl,vs,_,rv,ha⟩
    ·exact absurd ((if_neg hb2).symm.trans z1) (by simp)
  ·by_cases hb:b=T
   ·exact .inl hb
   ·by_cases hb2:b=a
    ·exact .inr ⟨hb2,_,_,(if_neg hb).trans (if_pos hb2)⟩
    ·exact absurd ((if_neg hb).trans (if_neg hb2)) z
structure FunC (K:yc3) (x qual:Str) (st:Stmt) (f:Addr) (fd:FuncData) (c:Addr):Prop where
 ex:∃(oc:Value) (od:Option Addr) (kV doc pm:Value) (an:Option Addr) (ct:Value) (osl:Array (Option Value)),
  fd=ycq x qual (yA st) (yu st) (ya st) .none kV doc pm an (.ref c) ct∧K.lookup f=some ⟨oc,od, .func fd,osl⟩∧ycl K (.ref c) qual=true
theorem FunC.ok{P:Program}{w:World}{K:yc3}{mg:Str→Option Value}{base:Heap}{x qual:Str}{st:Stmt}{f c:Addr}{fd:FuncData}{N ps:List Str}{k:Nat}{sp:Sp}(F:FunC K x qual st f fd c)(S:FnScope N ps (ya st))(len:∀vs H Q E,sp vs H Q E→vs.length=ps.length)
  (hbody:∀(A:Around) (outer:List Env) (s:Shared) (H:Hp) (vs:List V) (Q:VK) (E:XK),Room k (A.deeper (envOfC qual (ya st) s.heap.objs.size f (.ref c)))→sp vs H Q E→
   ∃t,PSs (JU CX0 P w K mg base N qual (ya st) f (.ref c) A outer s H E).nox (yu st) t∧t {nx:=fun _ H'=>Q .non H',rt:=Q} (start N vs) H):FnOk P w K mg base CX0 (k + 1) f fd ps sp:=by
 obtain⟨oc,od,kV,doc,pm,an,ct,osl,rfl,lk,hcd⟩:=F.ex
 refine zn lk hcd S len fun A outer s H vs Q E hr hsp=> ?_
 obtain⟨t,h,q⟩:=hbody A outer s H vs Q E hr hsp
 exact⟨t,h.nox,q⟩
theorem y6y{K:yc3}{x:Str}{f c T:Addr}{oc:Value}{od:Option Addr}{fd:FuncData}{osl:Array (Option Value)}(a:ych K mainGlobals x=some (some (.ref f)))(l:K.lookup f=some ⟨oc,od, .func fd,osl⟩)(t:yfb K x=some (c,T)) :
  fd.code= .ref c:=by
 unfold yfb at t
 rw [a] at t
 simp only [l] at t
 cases e:fd.code with
 | ref c'=>
  rw [e] at t
  simp only at t
  cases hk:K.lookup c' with
  | none=>rw [hk] at t; cases t
  | some o=>
   rw [hk] at t
   obtain⟨cls,dict,data,sl⟩:=o
   cases data with
   | fields vs=>
    simp only at t
    split at t
    ·cases t; rfl
    ·cases t
   | _=>cases t
 | _=>rw [e] at t; cases t
theorem y9l{K:yc3}{hp:Heap}{x qual:Str}{st:Stmt}{f c T:Addr}{fd:FuncData}(F:Fun K x qual st f fd)(KX:K.In hp)(hT:hp.get? T=some (yfy #[]))(e:fd.code= .ref c):FunC (J7 K T) x qual st f fd c:=by
 obtain⟨⟨oc,od,kV,doc,pm,an,cdv,ct,osl,rfl,lk,hcd⟩,_⟩:=F.cut KX hT
 have e':cdv= .ref c:=e
 subst e'
 exact⟨⟨oc,od,kV,doc,pm,an,ct,osl,rfl,lk,hcd⟩⟩
theorem walk_ofT{l:yi5}{n k:Nat}{q:Program}{loose:List Str}{XP:(Str→Option Value)→Heap→Prop}{YP:World→Heap→Prop}{d dg:DefRec}{K:Params→yc3}{sp:yc3→Addr→Sp}{x g:Str}
  (hn:l.most=some n) (hn2:n≤sizeLine) (hdf:d.params.defaults= []) (hr:Room k callerA) (hrec:(recsOf q).find? (fun e=>e.name == g)=some dg)
  (hY:∀(w:World) (h:Heap),YP w h→(K w.params).In h)
  (F:∀(w:World) (mg:Str→Option Value) (fa:Addr) (h:Heap),(K w.params).In h→h.Ns mainGlobals mg→mg d.name=some (.ref fa)→
   ∃(fd:FuncData) (c T:Addr),yfb (K w.params) g=some (c,T)∧(∀(s:Shared) (u:Value),BindsTo s fd ⟨[u], []⟩ [(x,u)])∧
    (h.get? T=some (yfy #[])→∀base:Heap,(J7 (K w.params) T).In base→base.Ns mainGlobals mg→yej base c T→base.BuiltinsAt mg T→FnOk l.prog w (J7 (K w.params) T) mg base CX0 k fa fd [x] (sp (J7 (K w.params) T) T)))
  (hsp:∀(K:yc3) (T:Addr) (H:Hp) (a:Addr) (ns:List Int),ns.length≤n→H T=some (.tbl #[])→SqL K H a (ns.map V.int)→sp K T [.ref a] H (fun v _=>v= .bl true) fun _ _ _=>False) :
  PySem.W.WalkO q loose XP YP l.row.toRowW d [] (fun f vs=>PySem.call f vs):=by
 refine Att.attach_call hn hdf fun w s₀ s₁ mg mb fa o pm cd doc a vs ns G Y ho hd hcd hmg hobj hints hlen hg=> ?_
 have KX:=hY w _ Y
 obtain⟨fd,c,T,ht,hb,hF⟩:=F w mg fa _ KX G.T.g hmg
 obtain⟨hC,hTh⟩:=PySem.W.tab_of G.T KX hrec ht
 exact y47 KX hTh hC G.T.bmain G.T.g G.T.b G.T.builtins G.T.nolimit hg hobj hints (ydw hlen hn2) hr (hF hTh) hb (fun H hO hS=>hsp _ T H a ns hlen hO hS) fun H e s' z=>z
end L2
namespace L2
open PySem PySem.Spec PyProof.Rows
def jz(x y:Str)(p1 p2 p3 p4 p5 p6 p7:Pos)(j:Nat):Expr:= .Call (.Name "len" p1) [.Subscript (.Name y p2) (.Subscript (.Name x p3) (.Constant (.int 0) j p4) p5) p6] [] p7
section
variable{prog:Program}{w:World}{A:Around}{s:Shared}
theorem y74{x y:Str}{p1 p2 p3 p4 p5 p6 p7:Pos}{j0:Nat}{qual:Str}{params:Arguments}{scope:Scope}{cl:List (Str × Addr)}{pm ctv:Value}{c' f r q cy a:Addr}{mg mb:Str→Option Value}{n:Int}{t:Tok}{its ats:Array Value}{kvs:List (Key × Value)}
  (S:LamSc scope x y) (hroom:A.depth < recursionLimit) (hlim:s.heap.NoLimit) (hg:s.heap.Ns mainGlobals mg) (hm:mg "len" =none) (hb:s.heap.Ns builtinsNs mb) (hmb:mb "len" =some (.builtin "len"))
  (ho:s.heap.get? f=some (yev "<lambda>" qual params (jz x y p1 p2 p3 p4 p5 p6 p7 j0) scope cl pm c' ctv)) (hcd:s.heap.CodeRec (.ref c') qual)
  (hbind:∀v,bindArgs (yid "<lambda>" qual params (jz x y p1 p2 p3 p4 p5 p6 p7 j0) scope cl pm (.ref c') ctv) ⟨[v], []⟩=pure [(x,v)])
  (hcy:cl.lookup y=some cy) (hcell:s.heap.IsCell cy (some (.ref r))) (ha:s.heap.IsList a ats) (hat:ats[0]? =some (.int n t)) (hr:s.heap.IsList r its) (h0:0≤n) (hfit:n < 2 ^ 63) (hit:its[n.toNat]? =some (.ref q))
  (hs:(q == sysModules)=false) (hq:s.heap.DictOf (yL prog w) q kvs) (hkv:(kvs.length:Int) < 2 ^ 63) :
  wpAny (model prog w) A (call (.ref f) [.ref a]) (fun u s'=>∃h' tk t',s'={s with heap:=h',toks:=tk}∧u= .int kvs.length t'∧∀b o,s.heap.get? b=some o→h'.get? b=some o) (fun _ _=>False) s:=by
 refine wpAny_call (PySem.W.kla_callFunE (body:=jz x y p1 p2 p3 p4 p5 p6 p7 j0) hroom ho rfl S.co S.gen rfl hcd ?_)
 rw [hbind]
 refine wpAny_pure ?_
 refine wpAny_newFunctionEnv S.cell (by intro z hz; rw [ycb.mp hz]; exact S.xl) (fun h1 hns hsb=> ?_) S.kind
 have hk:∀b o,s.heap.get? b=some o→h1.get? b=some o:=fun b o e=>hsb.extBut b o (ycj (Heap.lt_size e)) (Heap.get?_push_of_some _ e)
 refine⟨hlim.keeps hk,PySem.W.kla_codeExpr ?_⟩
 unfold jz
 refine wpAny_Call_Name_kw (Calls.Name_function_global S.kind S.gl (Calls.loadGlobal_builtin (hg.keeps hk) hm (hb.keeps hk) hmb ?_) (by decide))
 refine PyProof.Rows.callWith_builtin1 ?_ rfl rfl
 refine Calls.spliced_cons (Subscript_ (wpAny_Name (wpAny_loadName_free (v:= .ref r) S.kind S.yf hcy ?_ ?_ S.cy) S.dy))
 ·obtain⟨o,e,d⟩:=hcell
  exact⟨o,hk _ _ e,d⟩
 have lk:∀{a:Addr} {zs:Array Value},s.heap.IsList a zs→h1.IsList a zs:=fun {a zs} ⟨o,e,r⟩=>⟨o,hk _ _ e,r⟩
 refine Subscript_ (wpAny_Name (wpAny_loadName_local (v:= .ref a) S.kind S.xl hns ?_ ?_) S.dx)
 ·show yh3 x [(x,Value.ref a)]=_
  simp
 refine wpAny_Constant_int ?_
 refine item_listR (lk ha) (by decide) (by decide) hat ?_ rfl
 refine item_listR (lk hr) h0 hfit hit ?_ rfl
 refine Calls.spliced_nil ?_
 have hq':h1.DictOf (yL prog w) q kvs:=by
  obtain⟨o,es,ep,e,yU⟩:=hq
  exact⟨o,es,ep,hk _ _ e,yU⟩
 refine call_len_dict hs hq' hkv ?_
 exact⟨h1,_,_,rfl,rfl,hk⟩
end
def y9d(K:yc3)(H:Hp)(r a:Addr)(k:Int):Prop:=∃(ns:List Int) (n:Int) (rs:List V) (q:Addr) (kvs:List (Key × V)),SqL K H a (ns.map V.int)∧ns[0]? =some n∧0≤n∧SqL K H r rs∧rs[n.toNat]? =some (.ref q)∧H q=some (.dK kvs)∧k=kvs.length
theorem qA:∀{as:List Addr} {us:List Value},yz (as.map V.ref) us→us=as.map Value.ref
 | [],_, .nil=>rfl
 | a :: as,_, .cons r t=>by
  cases r
  rw [ycv,qA t]
theorem xA:∀(as:List Addr),yz (as.map V.ref) (as.map Value.ref)
 | []=> .nil
 | a :: as=> .cons rfl (xA as)
end L2
namespace L2
open PySem PySem.Spec PyProof.Rows
theorem y5m{lam:Scope}{env:Env}{y:Str}(h:∀z ∈ lam.names,z.2= .free→z.1=y)(hy:env.kindOf y=some .cell):∀z ∈ lam.names,z.2= .free→env.kindOf z.1=some .cell∨env.kindOf z.1=some .free:=fun z hz e=>by
 rw [h z hz e]
 exact .inl hy
end L2
namespace L2
open PySem PySem.Spec PyProof.Rows
def y20(K:yc3)(x:Str):Bool:=match yfb K x with
 | some (_,T)=>(K.lookup T).isNone
 | none=>false
theorem y73{K:yc3}{x:Str}(h:y20 K x=true):∃c T,yfb K x=some (c,T)∧K.lookup T=none:=by
 unfold y20 at h
 cases e:yfb K x with
 | none=>rw [e] at h; cases h
 | some p=>
  rw [e] at h
  exact⟨p.1,p.2,rfl,yh9.mp h⟩
theorem Zq{T:Addr}:∀{K:yc3},K.lookup T=none→J7 K T=K
 | [],_=>rfl
 | (a,o) :: r,h=>by
  have ne:¬(T == a)=true:=fun z=>by
   rw [ydl,z] at h; cases h
  have ne':(T == a)=false:=ydh.mpr ne
  rw [ydl,ne'] at h
  have ih:=Zq (K:=r) h
  unfold J7 at ih ⊢
  rw [ydb,if_pos (by
   have:a ≠ T:=fun z=>ne (by rw [z]; exact beq_self_eq_true T)
   simpa using this),ih]
end L2
namespace L2
open PySem PySem.Spec PyProof.Rows PySem.W
def KOk{α:Type}(n:Nat)(c:Nat→Nat→Bool):KasT α→(α→Prop)→Prop
 | .ret a,R=>R a
 | .ask i j k,R=>i < n∧j < n∧KOk n c (k (c i j)) R
def kev{α:Type}(c:Nat→Nat→Bool):KasT α→α
 | .ret a=>a
 | .ask i j k=>kev c (k (c i j))
theorem KOk.bind{α β:Type}{n:Nat}{c:Nat→Nat→Bool}{f:α→KasT β}{R:β→Prop}:∀{t:KasT α},KOk n c t (fun a=>KOk n c (f a) R)→KOk n c (t.bind f) R
 | .ret _,h=>h
 | .ask i j k,⟨h1,h2,h3⟩=>⟨h1,h2,KOk.bind h3⟩
theorem KOk.mono{α:Type}{n:Nat}{c:Nat→Nat→Bool}{R R':α→Prop}(hr:∀a,R a→R' a):∀{t:KasT α},KOk n c t R→KOk n c t R'
 | .ret _,h=>hr _ h
 | .ask i j k,⟨h1,h2,h3⟩=>⟨h1,h2,KOk.mono hr h3⟩
theorem KOk.ev{α:Type}{n:Nat}{c:Nat→Nat→Bool}{R:α→Prop}:∀{t:KasT α},KOk n c t R→R (kev c t)
 | .ret _,h=>h
 | .ask i j k,⟨_,_,h3⟩=>KOk.ev (n:=n) (t:=k (c i j)) h3
theorem KOk.wp{α:Type}{n:Nat}{c:Nat→Nat→Bool}{cmp:Nat→Nat→(Bool→Shared→Prop)→Shared→Prop}{Q:α→Shared→Prop}{R:α→Prop}{s:Shared}(hc:∀i j,i < n→j < n→∀C:Bool→Shared→Prop,C (c i j) s→cmp i j C s) :
  ∀{t:KasT α},KOk n c t R→Q (kev c t) s→t.kasWp cmp Q s
 | .ret _,_,q=>q
 | .ask i j k,⟨h1,h2,h3⟩,q=>hc i j h1 h2 _ (KOk.wp hc h3 q)
structure Swo (c:Nat→Nat→Bool):Prop where
 irr:∀a,c a a=false
 tr:∀a b d,c a b=true→c b d=true→c a d=true
 neg:∀a b d,c a d=true→c a b=true∨c b d=true
section
variable{c:Nat→Nat→Bool}{n:Nat}{p:Array Nat}
def kle(c:Nat→Nat→Bool)(a b:Nat):Prop:=c b a=false
theorem jA(S:Swo c)(a:Nat):kle c a a:=S.irr a
theorem Jn(S:Swo c){a b d:Nat}(h:kle c a b)(h':kle c b d):kle c a d:=by
 unfold kle at *
 cases e:c d a with
 | false=>rfl
 | true=>rcases S.neg d b a e with z | z <;> simp_all
theorem Zw(S:Swo c){a b:Nat}(h:c a b=true):kle c a b:=by
 unfold kle
 cases e:c b a with
 | false=>rfl
 | true=>
  have:=S.tr a b a h e
  rw [S.irr] at this; cases this
structure PInv (n:Nat) (p:Array Nat):Prop where
 size:p.size=n
 perm:p.toList.Perm (ycd n)
theorem PInv.lt(h:PInv n p){i:Nat}(hi:i < n):p.getD i 0 < n:=by
 have hi':i < p.size:=by rw [h.size]; exact hi
 have e:p.getD i 0=p[i]:=by simp [ygd,hi']
 rw [e]
 have:p[i] ∈ p.toList:=by simp
 exact ycs.mp (h.perm.mem_iff.mp this)
theorem PInv.of{q:Array Nat}(h:PInv n p)(hp:q.Perm p):PInv n q:=⟨hp.size_eq.trans h.size,(Array.perm_iff_toList_perm.mp hp).trans h.perm⟩
theorem V6(q:Array Nat)(i:Nat):q.getD i 0=(q[i]?).getD 0:=by
 by_cases h:i < q.size
 ·simp [ygd,h]
 ·simp [ygd,h]
theorem y38{k d:Nat}(hk:k < p.size)(hd:d≤k)(j:Nat):(bubble p k d).getD j 0=if j=k - d then p.getD k 0 else if k - d < j∧j≤k then p.getD (j - 1) 0 else p.getD j 0:=by
 rw [V6,getElem?_bubble hk d hd j]
 by_cases h1:j=k - d
 ·rw [if_pos h1,if_pos h1,←V6]
 ·rw [if_neg h1,if_neg h1]
  by_cases h2:k - d < j∧j≤k
  ·rw [if_pos h2,if_pos h2,←V6]
  ·rw [if_neg h2,if_neg h2,←V6]
theorem jX{i j:Nat}(hj:j≤p.size)(k:Nat):(kas_rev p i j).getD k 0=if i≤k∧k < j then p.getD (i + j - 1 - k) 0 else p.getD k 0:=by
 unfold kas_rev
 rw [V6,getElem?_mirror_all hj k]
 by_cases h1:i≤k∧k < j
 ·rw [if_pos h1,if_pos h1,←V6]
 ·rw [if_neg h1,if_neg h1,←V6]
theorem ZR(h:PInv n p)(i j:Nat):PInv n (kas_rev p i j):=h.of (mirror_perm _ _ _ _)
def Up(c:Nat→Nat→Bool)(p:Array Nat)(k:Nat):Prop:=∀i j,i≤j→j < k→kle c (p.getD i 0) (p.getD j 0)
def Dn(c:Nat→Nat→Bool)(p:Array Nat)(k:Nat):Prop:=∀i j,i≤j→j < k→kle c (p.getD j 0) (p.getD i 0)
theorem W0(S:Swo c)(I:PInv n p):∀(f k:Nat),1≤k→k + f=n→Up c p k→KOk n c (kas_asc p f k) fun m=>k≤m∧m≤n∧Up c p m∧(m=n∨c (p.getD m 0) (p.getD (m - 1) 0)=true)
 | 0,k,h1,h2,h3=>⟨yc6 _,by omega,h3, .inl (by omega)⟩
 | f + 1,k,h1,h2,h3=>by
  refine⟨I.lt (by omega),I.lt (by omega), ?_⟩
  cases e:c (p.getD k 0) (p.getD (k - 1) 0) with
  | true=>
   (dsimp only; rw [if_pos rfl])
   exact⟨yc6 _,by omega,h3, .inr e⟩
  | false=>
   (dsimp only; rw [if_neg ycp])
   refine KOk.mono (fun m hm=>⟨by omega,hm.2⟩) (W0 S I f (k + 1) (by omega) (by omega) fun i j hij hj=> ?_)
   by_cases ej:j=k
   ·subst ej
    by_cases ei:i=j
    ·subst ei; exact jA S _
    ·exact Jn S (h3 i (j - 1) (by omega) (by omega)) e
   ·exact h3 i j hij (by omega)
def Eqs(c:Nat→Nat→Bool)(p:Array Nat)(k q:Nat):Prop:=∀i j,k - (q + 1)≤i→i < k→k - (q + 1)≤j→j < k→kle c (p.getD i 0) (p.getD j 0)
theorem y3s(S:Swo c)(I:PInv n p){k q:Nat}(hk:k≤n)(hq:q + 1≤k)(d:Dn c p k)(e:Eqs c p k q):Dn c (kas_rev p (k - (q + 1)) k) k:=fun i j hij hj=>by
 rw [jX (by rw [I.size]; exact hk),jX (by rw [I.size]; exact hk)]
 by_cases ci:k - (q + 1)≤i
 ·rw [if_pos ⟨by omega,hj⟩,if_pos ⟨ci,by omega⟩]
  exact e _ _ (by omega) (by omega) (by omega) (by omega)
 ·rw [if_neg (show ¬(k - (q + 1)≤i∧i < k) by omega)]
  by_cases cj:k - (q + 1)≤j
  ·rw [if_pos ⟨cj,hj⟩]
   exact d i _ (by omega) (by omega)
  ·rw [if_neg (show ¬(k - (q + 1)≤j∧j < k) by omega)]
   exact d i j hij hj
theorem Mq(S:Swo c){k:Nat}(h1:1≤k)(d:Dn c p k)(h:kle c (p.getD k 0) (p.getD (k - 1) 0)):Dn c p (k + 1):=fun i j hij hj=>by
 by_cases ej:j=k
 ·subst ej
  by_cases ei:i=j
  ·subst ei; exact jA S _
  ·exact Jn S h (d i (j - 1) (by omega) (by omega))
 ·exact d i j hij (by omega)
theorem ZX(S:Swo c):∀(f:Nat) (p:Array Nat) (k q:Nat),PInv n p→1≤k→k + f=n→q + 1≤k→Dn c p k→Eqs c p k q→
  KOk n c (kas_desc f p k q) fun r=>PInv n r.1∧k≤r.2.1∧r.2.1≤n∧r.2.2 + 1≤r.2.1∧Dn c r.1 r.2.1∧Eqs c r.1 r.2.1 r.2.2
 | 0,p,k,q,I,h1,h2,h3,d,e=>⟨I,yc6 _,by show k≤n; omega,h3,d,e⟩
 | f + 1,p,k,q,I,h1,h2,h3,d,e=>by
  refine⟨I.lt (by omega),I.lt (by omega), ?_⟩
  cases e1:c (p.getD k 0) (p.getD (k - 1) 0) with
  | true=>
   (dsimp only; rw [if_pos rfl])
   have one:∀r:Array Nat,Eqs c r (k + 1) 0:=fun r i j a1 a2 a3 a4=>by
    have:i=j:=by omega
    subst this; exact jA S _
   by_cases hq:q > 0
   ·rw [if_pos hq]
    have I':=ZR I (k - (q + 1)) k
    refine KOk.mono (fun r hr=>⟨hr.1,by omega,hr.2.2⟩) (ZX S f _ (k + 1) 0 I' (by omega) (by omega) (by omega) (Mq S h1 (y3s S I (by omega) h3 d e) ?_) (one _))
    rw [jX (by rw [I.size]; omega),jX (by rw [I.size]; omega),if_neg (by omega),if_pos (by omega)]
    exact Jn S (Zw S e1) (e _ _ (by omega) (by omega) (by omega) (by omega))
   ·rw [if_neg hq]
    exact KOk.mono (fun r hr=>⟨hr.1,by omega,hr.2.2⟩) (ZX S f _ (k + 1) 0 I (by omega) (by omega) (by omega) (Mq S h1 d (Zw S e1)) (one _))
  | false=>
   (dsimp only; rw [if_neg ycp])
   refine⟨I.lt (by omega),I.lt (by omega), ?_⟩
   cases e2:c (p.getD (k - 1) 0) (p.getD k 0) with
   | true=>
    (dsimp only; rw [if_pos rfl])
    exact⟨I,yc6 _,by show k≤n; omega,h3,d,e⟩
   | false=>
    (dsimp only; rw [if_neg ycp])
    refine KOk.mono (fun r hr=>⟨hr.1,by omega,hr.2.2⟩) (ZX S f _ (k + 1) (q + 1) I (by omega) (by omega) (by omega) (Mq S h1 d e2) fun i j a1 a2 a3 a4=> ?_)
    have toK:∀i,k + 1 - (q + 1 + 1)≤i→i < k→kle c (p.getD i 0) (p.getD (k - 1) 0)∧kle c (p.getD (k - 1) 0) (p.getD i 0):=fun i b1 b2=>⟨e _ _ (by omega) b2 (by omega) (by omega),e _ _ (by omega) (by omega) (by omega) b2⟩
    by_cases ei:i=k
    ·by_cases ej:j=k
     ·rw [ei,ej]; exact jA S _
     ·rw [ei]; exact Jn S e2 (toK j a3 (by omega)).2
    ·by_cases ej:j=k
     ·rw [ej]; exact Jn S (toK i a1 (by omega)).1 e1
     ·exact Jn S (toK i a1 (by omega)).1 (toK j a3 (by omega)).2
theorem WD(S:Swo c){k:Nat}(I:PInv n p)(h1:1≤k)(hk:k≤n)(d:Dn c p k):KOk n c (kas_tail3 k n p) fun r=>1≤r.1∧r.1≤n∧PInv n r.2∧Up c r.2 r.1:=by
 unfold kas_tail3
 have I':=ZR I 0 k
 refine KOk.bind (KOk.mono (fun m hm=>⟨by show 1≤m; omega,hm.2.1,I',hm.2.2.1⟩) (W0 S I' (n - k) k h1 (by omega) fun i j hij hj=> ?_))
 rw [jX (by rw [I.size]; exact hk),jX (by rw [I.size]; exact hk),if_pos (by omega),if_pos (by omega)]
 exact d _ _ (by omega) (by omega)
theorem Qa(S:Swo c){k:Nat}(I:PInv n p)(hk:k + 1≤n)(d:Dn c p (k + 1)):KOk n c (kas_descPart k n p) fun r=>1≤r.1∧r.1≤n∧PInv n r.2∧Up c r.2 r.1:=by
 unfold kas_descPart
 refine KOk.bind (KOk.mono (fun r hr=> ?_) (ZX S (n - (k + 1)) p (k + 1) 0 I (by omega) (by omega) (by omega) d fun i j a1 a2 a3 a4=> ?_))
 ·obtain⟨b1,b2,b3,b4,b5,b6⟩:=hr
  by_cases hq:r.2.2 > 0
  ·rw [if_pos hq]
   exact WD S (ZR b1 _ _) (by omega) b3 (y3s S b1 b3 b4 b5 b6)
  ·rw [if_neg hq]
   exact WD S b1 (by omega) b3 b5
 ·have:i=j:=by omega
  subst this; exact jA S _
theorem y75(S:Swo c)(I:PInv n p)(h1:1≤n):KOk n c (kas_count n p) fun r=>1≤r.1∧r.1≤n∧PInv n r.2∧Up c r.2 r.1:=by
 unfold kas_count
 refine KOk.bind (KOk.mono (fun m hm=> ?_) (W0 S I (n - 1) 1 (yc6 _) (by omega) fun i j hij hj=> ?_))
 ·obtain⟨b1,b2,b3,b4⟩:=hm
  by_cases e:m=n
  ·rw [if_pos (by simpa using e)]
   exact⟨b1,b2,I,b3⟩
  ·rw [if_neg (by simpa using e)]
   have b5:c (p.getD m 0) (p.getD (m - 1) 0)=true:=b4.resolve_left e
   by_cases h2:m > 1
   ·rw [if_pos h2]
    refine⟨I.lt (by omega),I.lt (by omega), ?_⟩
    cases e2:c (p.getD 0 0) (p.getD (m - 1) 0) with
    | true=>
     (dsimp only; rw [if_pos rfl])
     exact⟨b1,b2,I,b3⟩
    | false=>
     (dsimp only; rw [if_neg ycp])
     have all:∀i j,i < m→j < m→kle c (p.getD i 0) (p.getD j 0):=fun i j hi hj=>Jn S (b3 i (m - 1) (by omega) (by omega)) (Jn S e2 (b3 0 j (by omega) hj))
     refine Qa S (ZR I 0 m) (by omega) (Mq S (by omega) (fun i j hij hj=> ?_) ?_)
     ·rw [jX (by rw [I.size]; exact b2),jX (by rw [I.size]; exact b2),if_pos (by omega),if_pos (by omega)]
      exact all _ _ (by omega) (by omega)
     ·rw [jX (by rw [I.size]; exact b2),jX (by rw [I.size]; exact b2),if_neg (by omega),if_pos (by omega)]
      exact Jn S (Zw S b5) (all _ _ (by omega) (by omega))
   ·rw [if_neg h2]
    have hm1:m=1:=by omega
    subst hm1
    refine Qa S I (by omega) (Mq S (yc6 _) (fun i j hij hj=> ?_) (Zw S b5))
    have e1:i=0:=by omega
    have e2:j=0:=by omega
    subst e1 e2; exact jA S _
 ·have e1:i=0:=by omega
  have e2:j=0:=by omega
  subst e1 e2; exact jA S _
theorem Qw(S:Swo c)(I:PInv n p){k:Nat}(hk:k < n)(u:Up c p k):∀(f l r:Nat),l≤r→r≤k→r - l≤f→(∀i,i < l→kle c (p.getD i 0) (p.getD k 0))→(∀i,r≤i→i < k→c (p.getD k 0) (p.getD i 0)=true)→
  KOk n c (kas_place p k f l r) fun m=>m≤k∧(∀i,i < m→kle c (p.getD i 0) (p.getD k 0))∧∀i,m≤i→i < k→c (p.getD k 0) (p.getD i 0)=true
 | 0,l,r,h1,h2,h3,lo,hi=>⟨by omega,lo,fun i a b=>hi i (by omega) b⟩
 | f + 1,l,r,h1,h2,h3,lo,hi=>by
  unfold kas_place
  by_cases h:l ≥ r
  ·rw [if_pos h]
   exact⟨by omega,lo,fun i a b=>hi i (by omega) b⟩
  ·rw [if_neg h]
   have hm:(l + r) / 2 < r∧l≤(l + r) / 2:=by omega
   refine⟨I.lt hk,I.lt (by omega), ?_⟩
   cases e:c (p.getD k 0) (p.getD ((l + r) / 2) 0) with
   | true=>
    (dsimp only; rw [if_pos rfl])
    refine Qw S I hk u f l _ hm.2 (by omega) (by omega) lo fun i a b=> ?_
    have:=u _ i a b
    rcases S.neg _ (p.getD i 0) _ e with z | z
    ·exact z
    ·unfold kle at this
     rw [this] at z; cases z
   | false=>
    (dsimp only; rw [if_neg ycp])
    refine Qw S I hk u f _ r (by omega) h2 (by omega) (fun i a=> ?_) hi
    exact Jn S (u i _ (by omega) (by omega)) e
theorem y5f(S:Swo c):∀(f:Nat) (p:Array Nat) (k:Nat),PInv n p→k + f=n→Up c p k→KOk n c (kas_bin f p k) fun r=>PInv n r∧Up c r n
 | 0,p,k,I,h,u=>by
  have:k=n:=by omega
  subst this; exact⟨I,u⟩
 | f + 1,p,k,I,h,u=>by
  refine KOk.bind (KOk.mono (fun l hl=> ?_) (Qw S I (by omega) u k 0 k (yd9 _) (yc6 _) (by omega) (fun i hi=>absurd hi (yee _)) fun i a b=>absurd b (by omega)))
  obtain⟨b1,b2,b3⟩:=hl
  refine y5f S f _ (k + 1) (I.of (bubble_perm _ _ _)) (by omega) fun i j hij hj=> ?_
  have hkp:k < p.size:=by rw [I.size]; omega
  rw [y38 hkp (by omega),y38 hkp (by omega)]
  have ekl:k - (k - l)=l:=by omega
  rw [ekl]
  by_cases ei:i=l
  ·rw [if_pos ei]
   by_cases ej:j=l
   ·rw [if_pos ej]; exact jA S _
   ·rw [if_neg ej,if_pos (by omega)]
    exact Zw S (b3 _ (by omega) (by omega))
  ·rw [if_neg ei]
   by_cases ej:j=l
   ·rw [if_pos ej,if_neg (by omega)]
    exact b2 i (by omega)
   ·rw [if_neg ej]
    by_cases ci:l < i
    ·rw [if_pos (by omega),if_pos (by omega)]
     exact u _ _ (by omega) (by omega)
    ·rw [if_neg (by omega)]
     by_cases cj:l < j
     ·rw [if_pos (by omega)]
      exact u _ _ (by omega) (by omega)
     ·rw [if_neg (by omega)]
      exact u _ _ hij (by omega)
end
theorem qR{c:Nat→Nat→Bool}(S:Swo c){n:Nat}(h1:1≤n):KOk n c (kas_sort n) fun p=>PInv n p∧Up c p n:=by
 unfold kas_sort
 have I:PInv n (yg9 (ycd n)):=⟨by simp,by simp⟩
 refine KOk.bind (KOk.mono (fun r hr=> ?_) (y75 S I h1))
 obtain⟨b1,b2,b3,b4⟩:=hr
 by_cases h:r.1 < n
 ·rw [if_pos h]
  have e:max r.1 1=r.1:=by omega
  rw [e]
  exact y5f S (n - r.1) r.2 r.1 b3 (by omega) b4
 ·rw [if_neg h]
  have e:r.1=n:=by omega
  exact⟨b3,by rw [←e]; exact b4⟩
end L2
namespace L2
open PySem PySem.Spec PyProof.Rows PySem.W
def zlt(kz:List Int)(i j:Nat):Bool:=decide (kz.getD i 0 < kz.getD j 0)
theorem y0v(kz:List Int):Swo (zlt kz) where
 irr:=fun a=>decide_eq_false (by omega)
 tr:=fun a b d h1 h2=>by
  have h1':=of_decide_eq_true h1
  have h2':=of_decide_eq_true h2
  exact decide_eq_true (by omega)
 neg:=fun a b d h=>by
  have h':=of_decide_eq_true h
  by_cases e:kz.getD a 0 < kz.getD b 0
  ·exact .inl (decide_eq_true e)
  ·exact .inr (decide_eq_true (by omega))
def qf(b:Bool)(kz:List Int):List Nat:=(kev (zlt (katRev b kz)) (kas_sort kz.length)).toList
def YO{α:Type}(d:α)(b:Bool)(kz:List Int)(vs:List α):List α:=if vs.length < 2 then vs else katRev b ((qf b kz).map fun i=>(katRev b vs).getD i d)
theorem WN{vs:List Value}{kz:List Int}(h:IntsAre vs kz)(b:Bool):IntsAre (katRev b vs) (katRev b kz):=by
 unfold katRev
 cases b with
 | false=>exact h
 | true=>
  rw [if_pos rfl,if_pos rfl]
  induction h with
  | nil=>exact .nil
  | cons n t _ ih=>
   rw [yeu,yeu]
   exact ksk_snoc ih
theorem qH:∀{vs:List Value} {kz:List Int} {i:Nat},IntsAre vs kz→i < kz.length→∃t,vs.getD i Value.none= .int (kz.getD i 0) t
 | _,_,_, .nil,h=>absurd h (yee _)
 | _,_,0, .cons n t r,_=>⟨t,rfl⟩
 | _,_,i + 1, .cons n t r,h=>by
  obtain⟨u,e⟩:=qH (i:=i) r (by simpa using h)
  exact⟨u,by simpa using e⟩
theorem y2f{α:Type}:∀{l m:List α},l.Perm m→m.length < 2→l=m
 | _, [],h,_=>List.perm_nil.mp h
 | _, [v],h,_=>List.perm_singleton.mp h
 | _,_ :: _ :: _,_,h=>absurd h (by simp)
section
variable{prog:Program}{w:World}{A:Around}{E:Value→Shared→Prop}{s:Shared}{h₀:Heap}{L l kS D:Addr}{m:Str→Option Value}{news:List (Addr × Obj)}{b:Bool}{vs:List Value}{kz:List Int}{f:Value}{e1:Nat}{Q:Value→Shared→Prop}
theorem y8a(hn1:∀p ∈ news,p.1 < D)(hDk:D < kS)(hlen:kz.length=vs.length)
  (turn:∀(i:Nat) (v:Value) (k:Int),vs[i]? =some v→kz[i]? =some k→∀(h:Heap) (tk:Nat) (own:List (Addr × Obj)),Fr h₀ L h m→News h₀ L h (news ++ own)→
   wpAny (model prog w) A (call f [v]) (KskEnd h₀ L m (news ++ own) k {s with heap:=h,toks:=tk}) (fun _ _=>False) {s with heap:=h,toks:=tk})
  {Fin:List Value→Nat→Shared→Prop} (fin:∀ks e h tk,IntsAre ks kz→Fr h₀ L h m→News h₀ L h ((kS,seqObj "list" (yg9 ks) e) :: (D,seqObj "list" #[] e1) :: news)→Fin ks e {s with heap:=h,toks:=tk}) :
  ∀(r:List Value) (i:Nat) (ks:List Value) (e:Nat) (h:Heap) (tk:Nat),vs.drop i=r→i≤vs.length→IntsAre ks (kz.take i)→Fr h₀ L h m→News h₀ L h ((kS,seqObj "list" (yg9 ks) e) :: (D,seqObj "list" #[] e1) :: news)→
   KatKeys prog w A h₀ L m kS f Fin r ks e {s with heap:=h,toks:=tk}
 | [],i,ks,e,h,tk,hr,hi,hk,F,N=>by
  have hl:vs.length≤i:=by
   have:=congrArg ygg hr
   rw [ydt,ygr] at this
   omega
  refine KatKeys.nil (fin ks e h tk ?_ F N)
  rw [yen (by omega)] at hk
  exact hk
 | v :: r,i,ks,e,h,tk,hr,hi,hk,F,N=>by
  have hlt:i < vs.length:=by
   by_cases c:i < vs.length
   ·exact c
   ·rw [yex (by omega)] at hr; cases hr
  have hv:vs[i]? =some v:=by
   have:=congrArg (fun l=>l[0]?) hr
   simpa using this
  have hz:kz[i]? =some (kz[i]'(by omega)):=yc4 _
  refine KatKeys.cons (thn (turn i v _ hv hz h tk [(kS,seqObj "list" (yg9 ks) e),(D,seqObj "list" #[] e1)] F fun p hp=>N p ?_) fun u s' hs=> ?_)
  ·rcases ycw.mp hp with y | y
   ·exact yc9 _ (yc9 _ y)
   ·rcases ycg.mp y with y | y
    ·rw [y]; exact yc8
    ·rw [ycb.mp y]; exact yc9 _ yc8
  ·obtain⟨h',tk',t',es,eu,F',N'⟩:=hs
   subst es eu
   refine KatBack.intro (news:=(kS,seqObj "list" (yg9 ks) e) :: (D,seqObj "list" #[] e1) :: news) F' (fun p hp=>N' p ?_) (UpdF.head fun p hp=> ?_) fun h2 c2 F2 N2=> ?_
   ·rcases ycg.mp hp with y | y
    ·rw [y]; exact ycx _ yc8
    ·rcases ycg.mp y with y | y
     ·rw [y]; exact ycx _ (yc9 _ yc8)
     ·exact yde _ y
   ·rcases ycg.mp hp with y | y
    ·rw [y]; exact ycj hDk
    ·exact ycj (ye1 (hn1 p y) hDk)
   ·refine y8a hn1 hDk hlen turn fin r (i + 1) _ c2 h2 tk' ?_ (by omega) ?_ F2 N2
    ·rw [←List.tail_drop,hr]; rfl
    ·rw [List.take_add_one,hz]
     exact ksk_snoc hk
theorem y0h{kw:List (Str × Value)}(F:Fr h₀ L s.heap m)(N:News h₀ L s.heap news)(hl:s.heap.IsList l vs.toArray)(hlen:kz.length=vs.length)(h64:vs.length < 64)
  (ha1:argsOk "sorted" ⟨[.ref l],kw⟩) (ha2:∀x,argsOk "list.sort" ⟨[.ref x],kw⟩) (ht:∀x,Builtin.«list.sort» ⟨[.ref x],kw⟩=ksk_tree x f b)
  (turn:∀(i:Nat) (v:Value) (k:Int),vs[i]? =some v→kz[i]? =some k→∀(h:Heap) (tk:Nat) (own:List (Addr × Obj)),Fr h₀ L h m→News h₀ L h (news ++ own)→
   wpAny (model prog w) A.in1.in1 (call f [v]) (KskEnd h₀ L m (news ++ own) k {s with heap:=h,toks:=tk}) (fun _ _=>False) {s with heap:=h,toks:=tk})
  (h:∀D h' tk out c,Fr h₀ L h' m→News h₀ L h' ((D,seqObj "list" out c) :: news)→(∀q ∈ news,q.1 < D)→out.toList=YO Value.none b kz vs→Q (.ref D) {s with heap:=h',toks:=tk}) :
  wpAny (model prog w) A (call (.builtin "sorted") [.ref l] kw) Q E s:=by
 by_cases h2:vs.length < 2
 ·refine ksk_sorted F N hl hlen h64 ha1 ha2 ht turn fun D h' tk out c F' N' hlt ho=>h D h' tk out c F' N' hlt ?_
  unfold YO
  rw [if_pos h2]
  obtain⟨ps,hp,e,_⟩:=ho
  have e2:(kz.zip vs).map Prod.snd=vs:=by
   rw [List.map_snd_zip]; omega
  have:out.toList.Perm vs:=by
   rw [e,←e2]
   exact hp.map _
  exact y2f this h2
 ·refine kat_sortedK F N hl (by omega) h64 ha1 ha2 ht fun D kS e1 h' F' N' hDk hlt=> ?_
  refine y8a (s:=s) hlt hDk hlen turn (fun ks e h1 tk hk F1 N1=> ?_) vs 0 [] 0 h' s.toks rfl (yd9 _) .nil F' N'
  have hks:ks.length=vs.length:=by rw [hk.length]; exact hlen
  rw [ksk_kind (keys:=yg9 ks) hk (by rw [yc7]; omega)]
  refine wpAny_pure ?_
  have S:=y0v (katRev b kz)
  have ok:=qR S (n:=vs.length) (by omega)
  have hrz:(katRev b kz).length=vs.length:=by rw [kat_len]; exact hlen
  refine KOk.wp (fun i j hi hj C hC=> ?_) ok ?_
  ·obtain⟨t,ei⟩:=qH (i:=i) (WN hk b) (by omega)
   obtain⟨u,ej⟩:=qH (i:=j) (WN hk b) (by omega)
   unfold kas_ask
   rw [ei,ej]
   exact kat_lt_int hC
  ·refine KatFin.intro F1 N1 (UpdF.head fun p hp=> ?_) fun h3 c3 F3 N3=>KasFin.intro F3 N3 (UpdF.tail (ydf hDk) (UpdF.head fun p hp=>ycj (hlt p hp))) fun h4 c4 F4 N4=> ?_
   ·rcases ycg.mp hp with y | y
    ·rw [y]; exact ycj hDk
    ·exact ycj (ye1 (hlt p y) hDk)
   ·refine h D h4 tk _ c4 F4 (fun p hp=>N4 p (yc9 _ hp)) hlt ?_
    unfold YO qf
    rw [if_neg h2,hlen]
end
section
variable{α β:Type}
theorem WF(b:Bool){kz:List Int}(h:1≤kz.length):(qf b kz).Perm (ycd kz.length)∧(qf b kz).Pairwise fun i j=>(katRev b kz).getD i 0≤(katRev b kz).getD j 0:=by
 obtain⟨I,U⟩:=(qR (y0v (katRev b kz)) h).ev
 unfold qf
 refine⟨I.perm, ?_⟩
 rw [yeq]
 intro i j hi hj hij
 have hi':i < (kev (zlt (katRev b kz)) (kas_sort kz.length)).size:=by simpa using hi
 have hj':j < (kev (zlt (katRev b kz)) (kas_sort kz.length)).size:=by simpa using hj
 have:=U i j (yed hij) (by rw [←I.size]; exact hj')
 unfold L2.kle at this
 have e1:(kev (zlt (katRev b kz)) (kas_sort kz.length)).getD i 0=(kev (zlt (katRev b kz)) (kas_sort kz.length)).toList[i]:=by simp [ygd,hi']
 have e2:(kev (zlt (katRev b kz)) (kas_sort kz.length)).getD j 0=(kev (zlt (katRev b kz)) (kas_sort kz.length)).toList[j]:=by simp [ygd,hj']
 rw [e1,e2] at this
 have:=of_decide_eq_false this
 omega
theorem qX(b:Bool)(g:α→β)(l:List α):katRev b (l.map g)=(katRev b l).map g:=by
 unfold katRev
 cases b with
 | false=>rfl
 | true=>rw [if_pos rfl,if_pos rfl,yhm]
theorem xw(b:Bool)(l:List α):(katRev b l).Perm l:=by
 unfold katRev
 cases b with
 | false=>exact .refl _
 | true=>rw [if_pos rfl]; exact List.reverse_perm _
theorem QG(d:α)(l:List α):(ycd l.length).map (fun i=>l.getD i d)=l:=by
 refine yf7 fun i=> ?_
 rw [yca]
 by_cases h:i < l.length
 ·rw [ydu h,yc4 h]
  simp [h]
 ·rw [yd6 (by rw [yd2]; omega),yd6 (by omega)]; rfl
theorem MJ{d:α}{d':β}{b:Bool}{kz:List Int}{vs:List α}(g:α→β)(hl:kz.length=vs.length):YO d' b kz (vs.map g)=(YO d b kz vs).map g:=by
 unfold YO
 rw [yc2]
 by_cases h:vs.length < 2
 ·rw [if_pos h,if_pos h]
 ·rw [if_neg h,if_neg h,←qX,ydg]
  refine congrArg (katRev b) (ydv fun i hi=> ?_)
  have hi':i < vs.length:=by
   have:=ycs.mp ((WF b (kz:=kz) (by omega)).1.mem_iff.mp hi)
   omega
  have hi2:i < (katRev b vs).length:=by rw [kat_len]; exact hi'
  show(katRev b (vs.map g)).getD i d'=g ((katRev b vs).getD i d)
  rw [qX,ycc,ycc,yca,yc4 hi2]
  rfl
theorem Qd{d:α}{b:Bool}{kz:List Int}{vs:List α}(hl:kz.length=vs.length):(YO d b kz vs).Perm vs:=by
 unfold YO
 by_cases h:vs.length < 2
 ·rw [if_pos h]
 ·rw [if_neg h]
  refine(xw b _).trans ?_
  have h1:=(WF b (kz:=kz) (by omega)).1.map fun i=>(katRev b vs).getD i d
  have e:kz.length=(katRev b vs).length:=by rw [kat_len]; exact hl
  rw [e,QG] at h1
  exact h1.trans (xw b vs)
theorem WK{d:α}{key:α→Int}{vs:List α}:(YO d true (vs.map key) vs).Pairwise fun x y=>key y≤key x:=by
 unfold YO
 by_cases h:vs.length < 2
 ·rw [if_pos h]
  match vs,h with
  | [],_=>exact .nil
  | [v],_=>exact yfh _ _
 ·rw [if_neg h]
  have hz:1≤(vs.map key).length:=by rw [yc2]; omega
  obtain⟨p1,p2⟩:=WF true hz
  show yep _ (List.reverse _)
  rw [List.pairwise_reverse,ydx]
  refine(yep.and_mem.mp p2).imp fun {i j} ⟨hi,hj,h⟩=> ?_
  have hi':i < (katRev true vs).length:=by
   have:=ycs.mp (p1.mem_iff.mp hi)
   rw [yc2] at this
   rw [kat_len]; exact this
  have hj':j < (katRev true vs).length:=by
   have:=ycs.mp (p1.mem_iff.mp hj)
   rw [yc2] at this
   rw [kat_len]; exact this
  rw [qX,ycc,ycc,yca,yca,yc4 hi',yc4 hj'] at h
  rw [ycc,ycc,yc4 hi',yc4 hj']
  exact h
end
theorem y8n{ks:List Int}{as:List Addr}{us out:List Value}(r:yz (as.map V.ref) us)(hl:ks.length=as.length)(h:out=YO Value.none true ks us):∃as':List Addr,as'=YO 0 true ks as∧yz (as'.map V.ref) out∧as'.length≤as.length:=by
 have eu:=qA r
 subst eu
 rw [MJ (d:=0) Value.ref hl] at h
 refine⟨_,rfl,by rw [h]; exact xA _, ?_⟩
 exact Nat.le_of_eq (Qd hl).length_eq
def qq(K:yc3)(j:Nat)(T:Addr)(lpos:Pos)(q:Str)(te:TE):TE:=fun σ H Q=>te σ H fun v H1=>∃(p r:Addr) (as:List Addr) (ks:List Int),v= .ref p∧SqL K H1 p (as.map V.ref)∧as.length < 64∧σ[j]? =some (some (.ref r))∧ks.length=as.length∧
 (∀(i:Nat) (a:Addr) (k:Int),as[i]? =some a→ks[i]? =some k→y9d K H1 r a k)∧Y7 H1 T lpos q∧
 ∀(as':List Addr) (H2:Hp) (D:Addr),VB T H1 H2→Y7 H2 T lpos q→as'=YO 0 true ks as→H2 D=none→Q (.ref D) (upd H2 D (.lst (as'.map V.ref)))
theorem Wk{X:Cx}{e:Expr}{te:TE}{x y:Str}{j:Nat}{params:Arguments}{scope:Scope}{p p1 p2 p3 p4 p5 p6 p7 p8 lpos kp kp2 pos:Pos}{j0 j1:Nat}{c T:Addr}
  (hg:Gl X "sorted") (hm:X.mg "sorted" =none) (hml:X.mg "len" =none) (he:PE X e te) (S:LamSc scope x y) (hfr:∀z ∈ scope.names,z.2= .free→X.env.kindOf z.1=some .cell∨X.env.kindOf z.1=some .free)
  (hN:X.N[j]? =some y) (hcode:X.env.code= .ref c) (hC:yej X.base c T) (hB:X.base.BuiltinsAt X.mg T) (hroom:X.A.depth < recursionLimit) (hdef:defaultsOf params X.env=([], []))
  (hbind:∀(qual:Str) (cl:List (Str × Addr)) (pm:Value) (c':Addr) (ctv v:Value),bindArgs (yid "<lambda>" qual params (jz x y p1 p2 p3 p4 p5 p6 p7 j0) scope cl pm (.ref c') ctv) ⟨[v], []⟩=pure [(x,v)])
  (hst:starEach [e] X.env= [(false,eval e X.env)]:=by rfl) :
  PE X (.Call (.Name "sorted" p) [e] [⟨some "key", .Lambda params (jz x y p1 p2 p3 p4 p5 p6 p7 j0) scope lpos,kp⟩,⟨some "reverse", .Constant (.bool true) j1 p8,kp2⟩] pos) (qq X.K j T lpos (X.env.qual ++ "<lambda>") te):=by
 intro pins s σ H Q I h
 refine wpAny_Call_Name_kw (JP I hg hm Vu ?_)
 refine PyProof.Rows.callWith_kw ?_ (by rw [hst]; rfl) (by rw [hst]; rfl)
 rw [hst]
 show wpAny _ _ (spliced ((false,eval e X.env) :: [])) _ _ s
 refine Calls.spliced_cons (thn (he pins s σ H _ I h) fun u s1 ⟨v,H1,I1,r1,q1⟩=>Calls.spliced_nil ?_)
 obtain⟨a,r,as,ks,rfl,hp,hlen,hσ,hkl,hrow,hT,fin⟩:=q1
 cases r1
 refine PyProof.Rows.kws_cons (y7d I1 hcode hC hB hfr hdef hT fun f c' ctv H2 s2 I2 ho hcd hf hT2 sT hsz=>PyProof.Rows.kws_cons (Constant_bool (PyProof.Rows.kws_nil ?_)))
 obtain⟨ps,hP,_⟩:=id hT
 obtain⟨its,rv,pl,hz⟩:=I2.list (hp.sameT hP sT)
 obtain⟨m,hm2,hl2⟩:=id I2.loc
 have hky:X.env.kindOf y=some .cell∨X.env.kindOf y=some .free:=hfr (y, .free) (PySem.mem_of_lookup S.yf) rfl
 obtain⟨ur,rr,look⟩:=hl2 j y (.ref r) hN hσ (.inr hky)
 cases rr
 obtain⟨cy,ecy,hcell⟩:∃cy,(jw scope X.env).lookup y=some cy∧s2.heap.IsCell cy (some (.ref r)):=by
  have hfree:∀p ∈ scope.names,p.2= .free→∃c,X.env.cells.lookup p.1=some c:=fun p hp e=>I2.ok.has p.1 (hfr p hp e)
  obtain⟨cy,e1⟩:=qm (env:=X.env) (y:=y) scope.names [] (.inl (PySem.mem_of_lookup S.yf))
  have e2:=Q3 scope.names [] hfree (fun z=>by simp at z) e1
  rcases look with⟨k,_⟩ | ⟨_,c2,ec,z⟩
  ·rcases hky with q | q
   ·rw [q] at k; cases k
   ·rw [q] at k; cases k
  ·rw [e2] at ec; cases ec
   exact⟨cy,e1,z⟩
 have hlv:=rv.length
 rw [yc2] at hlv
 have nofn:∀{o:Obj},s2.heap.get? X.env.locals=some o→∃es ep,o.data= .dict es ep:=fun {o} e=>by
  obtain⟨o',es,ep,e',d,_⟩:=hm2
  rw [e] at e'; cases e'
  exact⟨es,ep,d⟩
 have hn63:=Mp
 refine y0h (kz:=ks) (f:= .ref f) (b:=true) (L:=X.env.locals) (m:=m) (news:=Att.ledger s2.heap X.env.locals X.env.locals) (Att.fr_all hm2) ?_ pl.isList (by omega) (by omega) (ksk_s2 _ _ _) (fun x=>ksk_l2 _ _ _) (fun x=>ksk_t2 _ _ _) ?_ ?_
 ·rintro⟨b,o⟩ hp
  obtain⟨n1,_,e⟩:=Att.mem_ledger.mp hp
  exact⟨e,n1,Att.noObjs_get _ _⟩
 ·intro i v k hvi hki h tk own F N
  have keep:∀b o,b ≠ X.env.locals→s2.heap.get? b=some o→h.get? b=some o:=fun b o nb e=>(N (b,o) (yde _ (Att.mem_ledger.mpr ⟨nb,nb,e⟩))).1
  have I3:Inv X pins σ H2 {s2 with heap:=h,toks:=tk}:=I2.butL hm2 F.ns keep
  obtain⟨hil,_⟩:=yc5.mp hvi
  have hni:as[i]? =some (as[i]'(by omega)):=yc4 _
  obtain⟨u,hu,ru⟩:=rv.get (i:=i) (x:= .ref (as[i]'(by omega))) (by rw [yca,hni]; rfl)
  rw [hvi] at hu; cases hu
  cases ru
  obtain⟨ns,n,rs,q,kvs,h1,h2,h3,h4,h5,h6,h7⟩:=hrow i _ k hni hki
  obtain⟨ats,rva,pla,za⟩:=I3.list (h1.sameT hP sT)
  obtain⟨rits,rvr,plr,zr⟩:=I3.list (h4.sameT hP sT)
  have h6':H2 q=some (.dK kvs):=sT q _ (by rintro rfl; rw [hP] at h6; cases h6) h6
  obtain⟨zz,hd,ws,rel,dd⟩:=ZT I3.hok h6'
  obtain⟨u,hu,ru⟩:=rvr.get h5
  cases ru
  obtain⟨u0,hu0,ru0⟩:=rva.get (i:=0) (x:= .int n) (by rw [yca,h2]; rfl)
  obtain⟨t0,rfl⟩:=ru0
  have hlr:=rvr.length
  obtain⟨hnl,_⟩:=yc5.mp h5
  obtain⟨mb,b1,b2⟩:=I3.mod.blt
  have ho':h.get? f=some (yev "<lambda>" (X.env.qual ++ "<lambda>") params (jz x y p1 p2 p3 p4 p5 p6 p7 j0) scope (jw scope X.env) ((X.mg "__name__").getD .none) c' ctv):=keep f _ (fun z=>by
   obtain⟨es,ep,d⟩:=nofn (z ▸ ho)
   cases d) ho
  have hcd':h.CodeRec (.ref c') (X.env.qual ++ "<lambda>"):=by
   obtain⟨c2,o,vs,t2,e2,ho2,hd2,hv2⟩:=hcd
   refine⟨c2,o,vs,t2,e2,keep c2 o (fun z=> ?_) ho2,hd2,hv2⟩
   obtain⟨es,ep,d⟩:=nofn (z ▸ ho2)
   rw [hd2] at d; cases d
  have hcell':h.IsCell cy (some (.ref r)):=by
   obtain⟨o,eo,d⟩:=hcell
   refine⟨o,keep cy o (fun z=> ?_) eo,d⟩
   obtain⟨es,ep,d'⟩:=nofn (z ▸ eo)
   rw [d] at d'; cases d'
  have hrl:=rel.length
  refine thn (y74 (s:={s2 with heap:=h,toks:=tk}) (q:=q) S hroom I3.nolimit (I3.mod.glob.keeps I3.bk) hml (b1.keeps I3.bk) ((b2 "len" (by decide)).trans (by decide +kernel)) ho' hcd' (hbind _ _ _ _ _) ecy hcell' pla.isList (by simpa using hu0) plr.isList h3 (by omega)
   (by simpa using hu) hd dd (by rw [sizeLine_eq] at zz; omega)) fun u s' ⟨h'',tk',t',e1,e2,hk⟩=> ?_
  subst e1
  refine⟨h'',tk',t',rfl, ?_,F.kept hk,N.grown hk⟩
  rw [e2,h7,hrl]
 ·intro D h' tk out c3 F' N' hlt hout
  obtain⟨as',hby,rvo,hll⟩:=y8n rv (by omega) hout
  have keep:∀b o,b ≠ X.env.locals→s2.heap.get? b=some o→h'.get? b=some o:=fun b o nb e=>(N' (b,o) (yc9 _ (Att.mem_ledger.mpr ⟨nb,nb,e⟩))).1
  have I3:Inv X pins σ H2 {s2 with heap:=h',toks:=tk}:=I2.butL hm2 F'.ns keep
  obtain⟨eD,nD,_⟩:=N' (D,seqObj "list" out c3) yc8
  have hD:s2.heap.objs.size≤D:=by
   have nf:f ≠ X.env.locals:=fun z=>by
    obtain⟨es,ep,d⟩:=nofn (z ▸ ho)
    cases d
   have:=hlt (f,_) (Att.mem_ledger.mpr ⟨nf,nf,ho⟩)
   rw [hsz]; exact this
  have hDn:H2 D=none:=I2.hok.fresh hD
  refine⟨.ref D,upd H2 D (.lst (as'.map V.ref)),I3.track hDn (ydw I2.sz hD) nD (fun x c e z=> ?_) (fun p hp z=> ?_) ⟨by rw [yc2] at hz ⊢; omega,out.toList,c3,rvo, ?_⟩,rfl,fin as' H2 D sT hT2 hby hDn⟩
  ·obtain⟨v,o,eo,_⟩:=I2.cell x c e
   exact absurd (ycm (Heap.lt_size eo) hD) (by rw [z]; exact yd3 _)
  ·obtain⟨eo,_⟩:=I2.pin p hp
   exact absurd (ycm (Heap.lt_size eo) hD) (by rw [z]; exact yd3 _)
  ·rw [eD]
theorem xU{X:Cx}{e:Expr}{te:TE}{x y:Str}{j:Nat}{params:Arguments}{scope:Scope}{p p1 p2 p3 p4 p5 p6 p7 p8 lpos kp kp2 pos:Pos}{j0 j1:Nat}{c T:Addr}{K:yc3}{Q0:Str}(hK:X.K=K)(hQ:X.env.qual ++ "<lambda>" =Q0)
  (hg:Gl X "sorted") (hm:X.mg "sorted" =none) (hml:X.mg "len" =none) (he:PE X e te) (S:LamSc scope x y) (hfr:∀z ∈ scope.names,z.2= .free→X.env.kindOf z.1=some .cell∨X.env.kindOf z.1=some .free)
  (hN:X.N[j]? =some y) (hcode:X.env.code= .ref c) (hC:yej X.base c T) (hB:X.base.BuiltinsAt X.mg T) (hroom:X.A.depth < recursionLimit) (hdef:defaultsOf params X.env=([], []))
  (hbind:∀(qual:Str) (cl:List (Str × Addr)) (pm:Value) (c':Addr) (ctv v:Value),bindArgs (yid "<lambda>" qual params (jz x y p1 p2 p3 p4 p5 p6 p7 j0) scope cl pm (.ref c') ctv) ⟨[v], []⟩=pure [(x,v)])
  (hst:starEach [e] X.env= [(false,eval e X.env)]:=by rfl) :
  PE X (.Call (.Name "sorted" p) [e] [⟨some "key", .Lambda params (.Call (.Name "len" p1) [.Subscript (.Name y p2) (.Subscript (.Name x p3) (.Constant (.int 0) j0 p4) p5) p6] [] p7) scope lpos,kp⟩,⟨some "reverse", .Constant (.bool true) j1 p8,kp2⟩] pos) (qq K j T lpos Q0 te):=by
 subst hK hQ
 exact Wk hg hm hml he S hfr hN hcode hC hB hroom hdef hbind hst
end L2
namespace L2
open PySem PySem.Spec PyProof.Rows PySem.W STab
def plt(a b:Int × Int):Prop:=a.1 < b.1∨(a.1=b.1∧a.2 < b.2)
instance (a b : Int × Int) : Decidable (plt a b) := by unfold plt; exact inferInstance
def V8(kz:List (Int × Int))(i j:Nat):Bool:=decide (plt (kz.getD i (0,0)) (kz.getD j (0,0)))
theorem y69(kz:List (Int × Int)):Swo (V8 kz) where
 irr:=fun a=>decide_eq_false (by unfold plt; omega)
 tr:=fun a b d h1 h2=>by
  have h1':=of_decide_eq_true h1
  have h2':=of_decide_eq_true h2
  unfold plt at h1' h2'
  exact decide_eq_true (by unfold plt; omega)
 neg:=fun a b d h=>by
  have h':=of_decide_eq_true h
  by_cases e:plt (kz.getD a (0,0)) (kz.getD b (0,0))
  ·exact .inl (decide_eq_true e)
  ·refine .inr (decide_eq_true ?_)
   unfold plt at h' e ⊢
   omega
abbrev Zs:=List (Addr × Int × Int)
def JR(k:Int × Int):List V:= [.int k.1, .int k.2]
section
variable{prog:Program}{w:World}{A:Around}{E:Value→Shared→Prop}{s:Shared}
theorem y29{a:Addr}{vs:List Value}{n:Nat}{P:PySem.Fin→Shared→Prop}(ho:s.heap.get? a=some (seqObj "list" vs.toArray n))(h2:vs.length < 2)
  (h:∀out:Array Value,out.toList=vs→P (.done (.ret .none)) {s with heap:=sortedHeap s.heap a vs out}):wpAny (model prog w) A (Builtin.«list.sort» ⟨[.ref a], []⟩) P E s:=by
 rw [list_sort_plain]
 have ha:a < s.heap.objs.size:=Heap.lt_size ho
 refine wpAny_bind (listItems_at ho rfl ?_)
 refine wpAny_bind (listUpdate_at ho rfl ?_ (by rw [yc7,sizeLine_eq]; omega) (yd9 _))
 obtain⟨e1,ho1⟩:∃e1,(s.heap.update a (Obj.mapSeq fun _=>(#[]:Array Value))).get? a=some (seqObj "list" #[] e1):=⟨_,get?_update_seq ho (fun _=>#[])⟩
 refine wpAny_bind (seqEpoch_at ho1 rfl ?_)
 refine wpAny_bind (wpAny_newTuple ?_ (by show vs.length≤_; rw [sizeLine_eq]; omega))
 refine wpAny_bind (wpAny_newList ?_ (yd9 _))
 refine wpAny_holding ?_
 have ho6:(((s.heap.update a (Obj.mapSeq fun _=>#[])).push (seqObj "tuple" vs.toArray 0)).push (seqObj "list" #[] 0)).get? a=some (seqObj "list" #[] e1):=by
  rw [Heap.get?_push_ne _ _ _ (by rw [size_push',Heap.size_update]; exact ycj (ydi ha)),Heap.get?_push_ne _ _ _ (by rw [Heap.size_update]; exact ycj ha)]
  exact ho1
 show wpAny (model prog w) A _ P E {s with heap:=((s.heap.update a (Obj.mapSeq fun _=>#[])).push (seqObj "tuple" vs.toArray 0)).push (seqObj "list" #[] 0)}
 dsimp only
 have h2':vs.toArray.size < 2:=by rw [yc7]; exact h2
 rw [if_pos h2',if_pos h2']
 refine wpAny_bind (wpAny_pure ?_)
 rw [StateT.run_pure]
 refine wpAny_bind (wpAny_pure ?_)
 dsimp only
 refine wpAny_bind (seqEpoch_at ho6 rfl ?_)
 have eo:((vs.toArray.zip vs.toArray).map (·.2)).toList=vs:=by
  clear h ho h2' ho6
  match vs,h2 with
  | [],_=>simp
  | [v],_=>simp
 refine wpAny_bind (listUpdate_at ho6 rfl ?_ (hsz2:=by
  show((vs.toArray.zip vs.toArray).map (·.2)).size≤_
  rw [←ycn,eo,sizeLine_eq]; omega))
 simp only [bne_self_eq_false,ydo,if_false]
 exact wpAny_pure (h _ eo)
end
section
variable{X:Cx}{pins:List (Addr × Obj)}{σ:St}{H:Hp}{s:Shared}
theorem qM{a:Addr}{k:Int × Int}(ok:HOk X.prog X.w H s.heap)(e:H a=some (.tup (JR k))):∃(o:Obj) (t u:Tok) (n:Nat),s.heap.get? a=some o∧o.cls= .type "tuple"∧o.data= .seq #[.int k.1 t, .int k.2 u] n:=by
 obtain⟨z0,its,r,o,h1,h2,n,h3⟩:=(show yR X.prog X.w H s.heap a (.tup (JR k)) from ok a _ e)
 unfold JR at r
 cases r with
 | cons r1 rt=>
  obtain⟨t,rfl⟩:=r1
  cases rt with
  | cons r2 rn=>
   obtain⟨u,rfl⟩:=r2
   cases rn
   exact⟨o,t,u,n,h1,h2,h3⟩
theorem qV{h:Heap}(ok:HOk X.prog X.w H s.heap)(keep:∀b o,H b ≠ none→s.heap.get? b=some o→h.get? b=some o):∀{zs:Zs},(∀z ∈ zs,H z.1=some (.tup (JR z.2)))→∃fs:List Value,KatTups h (zs.map fun z=>Value.ref z.1) fs∧fs.length=zs.length∧∀v ∈ fs,∃n t,v=Value.int n t
 | [],_=>⟨[],KatTups.nil,rfl,fun _ h=>by cases h⟩
 | z :: zs,hz=>by
  obtain⟨fs,h1,h2,h3⟩:=qV ok keep (zs:=zs) fun x hx=>hz x (yc9 _ hx)
  obtain⟨o,t,u,n,e1,e2,e3⟩:=qM ok (hz z yc8)
  refine⟨.int z.2.1 t :: fs,KatTups.cons (keep _ _ (by rw [hz z yc8]; exact fun q=>by cases q) e1) e2 e3 rfl h1,by rw [yct,yct,h2],fun v hv=> ?_⟩
  rcases ycg.mp hv with q | q
  ·exact⟨_,_,q⟩
  ·exact h3 v q
theorem y68{prog:Program}{w:World}{A:Around}{E:Value→Shared→Prop}{s:Shared}{x y:Addr}{ox oy:Obj}{k j:Int × Int}{t u t' u':Tok}{n n':Nat}{Q:Bool→Shared→Prop}(hx:s.heap.get? x=some ox)(dx:ox.data= .seq #[.int k.1 t, .int k.2 u] n)
  (hy:s.heap.get? y=some oy) (dy:oy.data= .seq #[.int j.1 t', .int j.2 u'] n') (h:Q (decide (plt k j)) s):wpAny (model prog w) A (keyLt' (tuples' true) (.ref x) (.ref y)) Q E s:=by
 refine kat_lt hx dx hy dy ?_
 show KatLex prog w A true (decide (2 < 2)) Q [(.int k.1 t, .int j.1 t'),(.int k.2 u, .int j.2 u')] 0 s
 refine kat_cons (wpAny_eqBool_int (kat_go (fun e=>kat_yes ?_) fun e=>kat_no ?_))
 ·have e':k.1=j.1:=by simpa using e
  refine kat_cons (wpAny_eqBool_int (kat_go (fun e2=>kat_yes (kat_nil ?_)) fun e2=>kat_no ?_))
  ·have e2':k.2=j.2:=by simpa using e2
   have:decide (plt k j)=decide (2 < 2):=by
    rw [decide_eq_false (p:=plt k j) (by unfold plt; omega)]; rfl
   rw [←this]; exact h
  ·have:decide (plt k j)=decide (k.2 < j.2):=by
    by_cases c:k.2 < j.2
    ·rw [decide_eq_true (p:=plt k j) (by unfold plt; omega),decide_eq_true c]
    ·rw [decide_eq_false (p:=plt k j) (by unfold plt; omega),decide_eq_false c]
   rw [this] at h
   exact kat_one _ _ (PyProof.Rows.lt_int h)
 ·have e':k.1 ≠ j.1:=by simpa using e
  have:decide (plt k j)=decide (k.1 < j.1):=by
   by_cases c:k.1 < j.1
   ·rw [decide_eq_true (p:=plt k j) (by unfold plt; omega),decide_eq_true c]
   ·rw [decide_eq_false (p:=plt k j) (by unfold plt; omega),decide_eq_false c]
  rw [this] at h
  exact oneLt_int h
def pLe(a b:Addr × Int × Int):Prop:=¬plt b.2 a.2
theorem y3z{zs:Zs}{A:Around}{E:Value→Shared→Prop}{Q:VK}(I:Inv X pins σ H s)(hz:∀z ∈ zs,H z.1=some (.tup (JR z.2)))(h64:zs.length < 64)
  (q:∀zs':Zs,zs'.Perm zs→zs'.Pairwise pLe→∀p,H p=none→Q (.ref p) (upd H p (.lst (zs'.map fun z=>V.ref z.1)))) :
  wpAny (model X.prog X.w) A (call (.builtin "list.sort") [.ref s.heap.objs.size]) (fun _ s'=>EP X pins σ Q (.ref s.heap.objs.size) s') E {s with heap:=s.heap.push (seqObj "list" (zs.map fun z=>Value.ref z.1).toArray 0)}:=by
 have hoL:(s.heap.push (seqObj "list" (zs.map fun z=>Value.ref z.1).toArray 0)).get? s.heap.objs.size=some (seqObj "list" (zs.map fun z=>Value.ref z.1).toArray 0):=Heap.get?_push_size _ rfl
 have hlv:(zs.map fun z=>Value.ref z.1).length=zs.length:=yc2 _
 have rvals:∀l:Zs,yz (l.map fun z=>V.ref z.1) (l.map fun z=>Value.ref z.1):=fun l=>by
  induction l with
  | nil=>exact .nil
  | cons z l ih=>exact .cons rfl ih
 by_cases h2:zs.length < 2
 ·refine wpAny_call_entry slot_list_sort ⟨_,hoL,rfl⟩ entry_list_sort (y29 hoL (by omega) fun out ho=>⟨_,rfl, ?_⟩) (args_list_sort _)
  obtain⟨e,he⟩:=sortedHeap_at (vs:=zs.map fun z=>Value.ref z.1) (out:=out) hoL
  refine⟨.ref s.heap.objs.size,_,I.laid (a:=s.heap.objs.size) (o:= .lst (zs.map fun z=>V.ref z.1)) (t':=s.toks) (fun b o hb=> ?_) (yc6 _) ?_,rfl,q zs (.refl _) ?_ _ (I.hok.fresh (yc6 _))⟩
  ·have hlt:=Heap.lt_size hb
   show(sortedHeap (s.heap.push (seqObj "list" (zs.map fun z=>Value.ref z.1).toArray 0)) s.heap.objs.size (zs.map fun z=>Value.ref z.1) out).get? b=some o
   rw [sortedHeap_old (ycj hlt) (by rw [size_push']; exact ydi hlt)]
   exact Heap.get?_push_of_some _ hb
  ·refine⟨by rw [yc2,sizeLine_eq]; omega,out.toList,e,by rw [ho]; exact rvals zs, ?_⟩
   show(sortedHeap (s.heap.push (seqObj "list" (zs.map fun z=>Value.ref z.1).toArray 0)) s.heap.objs.size (zs.map fun z=>Value.ref z.1) out).get? s.heap.objs.size=_
   rw [he]
  ·match zs,h2 with
   | [],_=>exact .nil
   | [v],_=>exact yfh _ _
 ·obtain⟨m,hm2,hl2⟩:=id I.loc
  have keepP:∀b o,s.heap.get? b=some o→(s.heap.push (seqObj "list" (zs.map fun z=>Value.ref z.1).toArray 0)).get? b=some o:=fun b o e=>Heap.get?_push_of_some _ e
  have N0:News (Att.noObjs s.heap) X.env.locals s.heap (Att.ledger s.heap X.env.locals X.env.locals):=by
   rintro⟨b,o⟩ hp
   obtain⟨n1,_,e⟩:=Att.mem_ledger.mp hp
   exact⟨e,n1,Att.noObjs_get _ _⟩
  refine wpAny_call_entry slot_list_sort ⟨_,hoL,rfl⟩ entry_list_sort (kat_list_sort (h₀:=Att.noObjs s.heap) (L:=X.env.locals) (m:=m) (news:=Att.ledger s.heap X.env.locals X.env.locals) ((Att.fr_all hm2).kept keepP) (N0.grown keepP) hoL (ydf (Att.fr_all hm2).ns.lt) (Att.noObjs_get _ _)
   (fun p hp=>ycj (Heap.lt_size (N0 p hp).1)) (by omega) (by omega) fun e1 h' F' N'=> ?_) (args_list_sort _)
  have keep:∀b o,b ≠ X.env.locals→s.heap.get? b=some o→h'.get? b=some o:=fun b o nb e=>(N' (b,o) (yc9 _ (Att.mem_ledger.mpr ⟨nb,nb,e⟩))).1
  have nL:∀b,H b ≠ none→b ≠ X.env.locals:=fun b e z=>e (by rw [z,I.free])
  obtain⟨fs,t1,t2,t3⟩:=qV (h:=h') I.hok (fun b o hb e=>keep b o (nL b hb) e) hz
  refine kat_kind (T:= .type "int") t1 (by omega) (fun v hv=> ?_) (by decide) ?_
  ·obtain⟨n,t,rfl⟩:=t3 v hv
   exact .now
  have eT:(Value.type "int" != Value.type "tuple")=true:=by decide
  rw [eT]
  have S:=y69 (zs.map (·.2))
  have ok:=qR S (n:=zs.length) (by omega)
  rw [hlv]
  have at_:∀i,i < zs.length→∃z,zs[i]? =some z∧(zs.map fun z=>Value.ref z.1).getD i Value.none= .ref z.1∧(zs.map (·.2)).getD i (0,0)=z.2:=fun i hi=>by
   refine⟨zs[i],yc4 hi, ?_, ?_⟩
   ·rw [ycc,yca,yc4 hi]; rfl
   ·rw [ycc,yca,yc4 hi]; rfl
  refine KOk.wp (fun i j hi hj C hC=> ?_) ok ?_
  ·obtain⟨z,hz1,ez,kz⟩:=at_ i hi
   obtain⟨y,hy1,ey,ky⟩:=at_ j hj
   unfold kas_ask
   rw [ez,ey]
   have hz':=hz z (yce hz1)
   have hy':=hz y (yce hy1)
   obtain⟨o,t,u,n,a1,a2,a3⟩:=qM I.hok hz'
   obtain⟨o',t',u',n',b1,b2,b3⟩:=qM I.hok hy'
   unfold V8 at hC
   rw [kz,ky] at hC
   exact y68 (keep _ _ (nL _ (by rw [hz']; exact fun q=>by cases q)) a1) a3 (keep _ _ (nL _ (by rw [hy']; exact fun q=>by cases q)) b1) b3 hC
  ·obtain⟨PI,U⟩:=ok.ev
   refine KasFin.intro F' N' (UpdF.head fun p hp=>ycj (Heap.lt_size (N0 p hp).1)) fun h3 c3 F3 N3=>⟨_,rfl, ?_⟩
   have keep3:∀b o,b ≠ X.env.locals→s.heap.get? b=some o→h3.get? b=some o:=fun b o nb e=>(N3 (b,o) (yc9 _ (Att.mem_ledger.mpr ⟨nb,nb,e⟩))).1
   have I3:Inv X pins σ H {s with heap:=h3,toks:=s.toks}:=I.butL hm2 F3.ns keep3
   have hDn:H s.heap.objs.size=none:=I.hok.fresh (yc6 _)
   have eo:((kev (V8 (zs.map (·.2))) (kas_sort zs.length)).toList.map fun i=>(zs.map fun z=>Value.ref z.1).getD i Value.none)=((kev (V8 (zs.map (·.2))) (kas_sort zs.length)).toList.map fun i=>zs.getD i (0,0,0)).map fun z=>Value.ref z.1:=by
    rw [ydg]
    refine ydv fun i hi=> ?_
    have hi':i < zs.length:=ycs.mp (PI.perm.mem_iff.mp hi)
    show _=Value.ref (zs.getD i (0,0,0)).1
    rw [ycc,ycc,yca,yc4 hi']; rfl
   have hpm:((kev (V8 (zs.map (·.2))) (kas_sort zs.length)).toList.map fun i=>zs.getD i (0,0,0)).Perm zs:=by
    have:=PI.perm.map fun i=>zs.getD i (0,0,0)
    rwa [QG] at this
   refine⟨.ref s.heap.objs.size,_,I3.track (o:= .lst (((kev (V8 (zs.map (·.2))) (kas_sort zs.length)).toList.map fun i=>zs.getD i (0,0,0)).map fun z=>V.ref z.1)) hDn (I.sz) (ydf (Att.fr_all hm2).ns.lt) (fun x c e z=> ?_) (fun p hp z=> ?_) ⟨?_,((kev (V8 (zs.map (·.2))) (kas_sort zs.length)).toList.map fun i=>zs.getD i (0,0,0)).map fun z=>Value.ref z.1,c3,rvals _, ?_⟩,rfl,q _ hpm ?_ _ hDn⟩
   ·obtain⟨v,o,eo,_⟩:=I.cell x c e
    exact absurd (Heap.lt_size eo) (by rw [z]; exact yd3 _)
   ·obtain⟨eo,_⟩:=I.pin p hp
    exact absurd (Heap.lt_size eo) (by rw [z]; exact yd3 _)
   ·rw [yc2,hpm.length_eq,sizeLine_eq]; omega
   ·have:=(N3 (s.heap.objs.size,_) yc8).1
    rw [this,eo]
   ·rw [ydx,yeq]
    intro i j hi hj hij
    have hi':i < (kev (V8 (zs.map (·.2))) (kas_sort zs.length)).size:=by simpa using hi
    have hj':j < (kev (V8 (zs.map (·.2))) (kas_sort zs.length)).size:=by simpa using hj
    have:=U i j (yed hij) (by rw [←PI.size]; exact hj')
    unfold L2.kle at this
    have e1:(kev (V8 (zs.map (·.2))) (kas_sort zs.length)).getD i 0=(kev (V8 (zs.map (·.2))) (kas_sort zs.length)).toList[i]:=by simp [ygd,hi']
    have e2:(kev (V8 (zs.map (·.2))) (kas_sort zs.length)).getD j 0=(kev (V8 (zs.map (·.2))) (kas_sort zs.length)).toList[j]:=by simp [ygd,hj']
    rw [e1,e2] at this
    have hi2:(kev (V8 (zs.map (·.2))) (kas_sort zs.length)).toList[i] < zs.length:=ycs.mp (PI.perm.mem_iff.mp (yg1 _))
    have hj2:(kev (V8 (zs.map (·.2))) (kas_sort zs.length)).toList[j] < zs.length:=ycs.mp (PI.perm.mem_iff.mp (yg1 _))
    have:=of_decide_eq_false this
    unfold pLe
    rw [ycc,ycc,yca,yca,yc4 hi2,yc4 hj2] at this
    rw [ycc,ycc,yc4 hi2,yc4 hj2]
    exact this
def y3i(P:Program)(w:World):List V→Hp→VK→Prop:=fun xs H Q=>∃(p:Addr) (zs:Zs),xs= [.ref p]∧H p=some (J9 P w p (zs.map fun z=>([z.2.1,z.2.2],z.1)))∧(∀z ∈ zs,H z.1=some (.tup (JR z.2)))∧zs.length < 64∧
 ∀zs':Zs,zs'.Perm zs→zs'.Pairwise pLe→∀l,H l=none→Q (.ref l) (upd H l (.lst (zs'.map fun z=>V.ref z.1)))
theorem y44{α β:Type}{f:α→β}:∀{l:List β} {m:List α},l.Perm (m.map f)→∃m':List α,m'.Perm m∧m'.map f=l:=by
 intro l m h
 generalize hx:m.map f=x at h
 induction h generalizing m with
 | nil=>exact⟨[],by rw [yip.mp hx],rfl⟩
 | cons a _ ih=>
  obtain⟨b,m2,rfl,rfl,h2⟩:=ygo.mp hx
  obtain⟨m',p1,p2⟩:=ih h2
  exact⟨b :: m',p1.cons b,by rw [ycv,p2]⟩
 | swap a b l=>
  obtain⟨x1,m2,rfl,rfl,h2⟩:=ygo.mp hx
  obtain⟨x2,m3,rfl,rfl,h3⟩:=ygo.mp h2
  exact⟨x2 :: x1 :: m3,yey.swap _ _ _,by rw [ycv,ycv,h3]⟩
 | trans _ _ ih1 ih2=>
  obtain⟨m1,p1,e1⟩:=ih2 hx
  obtain⟨m2,p2,e2⟩:=ih1 e1
  exact⟨m2,p2.trans p1,e2⟩
theorem Qj(hc:X.calm=true):Jd X (.builtin "sorted") (y3i X.prog X.w):=by
 intro pins s σ H xs us Q I r h
 obtain⟨p,zs,rfl,hp,hz,h64,q⟩:=h
 obtain⟨u,rfl,rx⟩:=jR r
 cases rx
 obtain⟨⟨o,es,ep,t,ho,hx,hd,hperm,T,_,_⟩,_,_⟩:=(show yR X.prog X.w H s.heap p (J9 X.prog X.w p _) from I.hok p _ hp)
 have hsz:es.size=zs.length:=by rw [←ycn,hperm.length_eq,yc2,yc2]
 refine Calls.call_function_entry kind_sorted plain_sorted entry_sorted (args_sorted1 _) ?_
 unfold Builtin.«sorted»
 refine wpAny_bind (m:=checkCount "sorted" 1 1 _) (wpAny_pure ?_)
 refine wpAny_bind (ygx (A:=X.A.in1) (y16 (P:=X.prog) hx hd T) (I.ok.hd hc) ho (by rw [sizeLine_eq]; omega) fun h' tk acc hk hacc=> ?_)
 have hl:acc.toList.length=es.size:=by rw [ycn]; exact hacc.1
 refine wpAny_bind (wpAny_newList ?_ (by rw [hl,sizeLine_eq]; omega))
 have I':Inv X pins σ H {s with heap:=h',toks:=tk}:=I.kept hk
 have op:=Mx X.w p ep es
 have ea:acc.toList=(jV X.w p ep es).map (·.2):=by
  refine yf7 fun j=> ?_
  rcases ydq j acc.toList.length with c | c
  ·obtain⟨e,h1,h2⟩:=hacc.2 j _ (by rw [←ycy]; exact yc4 c)
   rw [yc4 c,yca,h1]
   exact congrArg some h2.symm
  ·rw [yd6 c,yd6 (by rw [yc2,ZV]; omega)]
 have kp:acc.toList.Perm (zs.map fun z=>Value.ref z.1):=by
  rw [ea]
  have:=(op.trans hperm).map (·.2)
  rw [ydg,ydg] at this
  exact this
 obtain⟨zs1,p1,e1⟩:=y44 kp
 rw [←e1]
 refine wpAny_bind (wpAny_holding (wpAny_mono (y3z (A:=X.A.in1) (E:=X.xe) I' (fun z hz'=>hz z (p1.mem_iff.mp hz')) (by rw [p1.length_eq]; exact h64) fun zs' b1 b2=>q zs' (b1.trans p1) b2) (fun _ s' x=> ?_) fun _ _ e=>e))
 exact wpAny_pure ⟨_,rfl,x⟩
end
theorem y9c(a v d:Value):argsOk "max" ⟨[a], [(Str.ofString "key",v),(Str.ofString "default",d)]⟩:=by unfold argsOk; kernel_rfl
section
variable{prog:Program}{w:World}{A:Around}{E:Value→Shared→Prop}{s:Shared}{h0:Heap}{l I S:Addr}{d:Value}{as:List Addr}{ls:List Nat}{R:Result→Shared→Prop}
theorem y41(lens:∀(i:Nat) (a:Addr),as[i]? =some a→∃its:Array Value,h0.IsList a its∧its.size=ls.getD i 0∧its.size≤sizeLine){i:Nat}{a:Addr}{h:Heap}{tk:Nat}{Q:Value→Shared→Prop}(ha:as[i]? =some a)
  (keep:∀b o,h0.get? b=some o→h.get? b=some o) (hQ:∀t tk',Q (.int (ls.getD i 0:Nat) t) {s with heap:=h,toks:=tk'}):wpAny (model prog w) A (call (.builtin "len") [.ref a]) Q E {s with heap:=h,toks:=tk}:=by
 obtain⟨its,⟨o,ho,hc⟩,h2,h3⟩:=lens i a ha
 refine Calls.call_len_list (s:={s with heap:=h,toks:=tk}) ⟨o,keep _ _ ho,hc⟩ (by have:=Mp; omega) ?_
 rw [h2]
 exact hQ _ _
theorem y9a(hh:A.handled=none)(lens:∀(i:Nat) (a:Addr),as[i]? =some a→∃its:Array Value,h0.IsList a its∧its.size=ls.getD i 0∧its.size≤sizeLine)(hl:h0.IsList l (as.map Value.ref).toArray)
  (hI:h0.objs.size≤I) (hS:h0.objs.size≤S) (hSI:S ≠ I)
  (hR:∀i a h' tk,as[i]? =some a→(∀j,j < as.length→ls.getD j 0≤ls.getD i 0)→(∀b o,h0.get? b=some o→h'.get? b=some o)→R (.ok (.ret (.ref a))) {s with heap:=h',toks:=tk}) :
  ∀(r j i:Nat) (a:Addr) (h:Heap) (tk:Nat) (tb:Tok) (c:Nat),as.length - (j + 1)=r→j + 1≤as.length→(∀b o,h0.get? b=some o→h.get? b=some o)→h.get? S=some (seqObj "list" #[.ref a, .int (ls.getD i 0:Nat) tb] c)→
   h.IsListIter I l (j + 1)→as[i]? =some a→(∀j',j'≤j→ls.getD j' 0≤ls.getD i 0)→
   codeAny (model prog w) A (.builtin "max.loop" ⟨[.ref I, .builtin "len", .ref S], [(Str.ofString "default",d)]⟩) R {s with heap:=h,toks:=tk}:=by
 have hname:(toString "max" ++ toString ".loop" :String)="max.loop":=by decide
 obtain⟨ol,hol,_⟩:=id hl
 have hlI:l ≠ I:=ycj (ycm (Heap.lt_size hol) hI)
 have W:=Walks.list (prog:=prog) (w:=w) (A:=A.in1) hh I l hlI (as.map Value.ref).toArray
 have hsz:(as.map Value.ref).toArray.size=as.length:=by rw [yc7,yc2]
 have hlk:∀{h:Heap},(∀b o,h0.get? b=some o→h.get? b=some o)→h.IsList l (as.map Value.ref).toArray:=fun {h} k=>by
  obtain⟨o,ho,x⟩:=id hl
  exact⟨o,k _ _ ho,x⟩
 have off:∀{h h':Heap} {D:Addr},h0.objs.size≤D→(∀b o,h0.get? b=some o→h.get? b=some o)→(∀b o,b ∉ [D]→h.get? b=some o→h'.get? b=some o)→∀b o,h0.get? b=some o→h'.get? b=some o:=fun {h h' D} hD k k' b o e=>k' b o (fun z=>by
  rw [ycb.mp z] at e
  exact absurd (Heap.lt_size e) (yhk.mpr hD)) (k b o e)
 have offU:∀{h:Heap} (f:Obj→Obj),(∀b o,h0.get? b=some o→h.get? b=some o)→∀b o,h0.get? b=some o→(h.update S f).get? b=some o:=fun {h} f k=>off hS k fun b o hb e=>by
  rw [Heap.get?_update_ne _ _ _ _ (fun z=>hb (ycb.mpr z))]; exact e
 intro r
 induction r with
 | zero=>
  intro j i a h tk tb c hr hj keep gS hit ha hbest
  have hin:j + 1=as.length:=by omega
  refine codeAny_builtin yge ?_
  rw [Around.under_plainId yea _]
  show wpAny _ A.in1 (seqItems? (.ref S) >>= _) _ _ _
  refine wpAny_bind (wpAny_seqItems gS rfl ?_)
  show wpAny _ A.in1 (tryCatch (pyNext (.ref I)) _ >>= _) _ _ _
  refine wpAny_bind (wpAny_tryCatch (W.done _ _ _ ⟨by rw [hsz,←hin]; exact hit,hlk keep⟩ fun h' tk' hk'=> ?_))
  have keep':=off hI keep hk'
  have gS':=hk' S _ (by simpa using hSI) gS
  show wpAny _ A.in1 (updateSeq S (fun _=>#[]) >>= _) _ _ _
  refine wpAny_bind ?_
  refine wpAny_updateSeq gS' rfl (wpAny_bind (wpAny_letGo (wpAny_pure ?_)))
  exact hR i a _ _ ha (fun j' hj'=>hbest j' (by omega)) (offU _ keep')
 | succ r ih=>
  intro j i a h tk tb c hr hj keep gS hit ha hbest
  have hlt:j + 1 < as.length:=by omega
  refine codeAny_builtin yge ?_
  rw [Around.under_plainId yea _]
  show wpAny _ A.in1 (seqItems? (.ref S) >>= _) _ _ _
  refine wpAny_bind (wpAny_seqItems gS rfl ?_)
  show wpAny _ A.in1 (tryCatch (pyNext (.ref I)) _ >>= _) _ _ _
  refine wpAny_bind (wpAny_tryCatch (W.item (j + 1) _ _ _ (by rw [hsz]; exact hlt) ⟨hit,hlk keep⟩ fun v h' tk' hP hst' hk'=> ?_))
  have hv0:(as.map Value.ref)[j + 1]? =some v:=by simpa using hP
  have hx:as[j + 1]? =some as[j + 1]:=yc4 hlt
  rw [yca,hx] at hv0
  have ev:v= .ref as[j + 1]:=(Option.some.inj hv0).symm
  subst ev
  have keep':=off hI keep hk'
  have gS':=hk' S _ (by simpa using hSI) gS
  have hit':=hst'.1
  show wpAny _ A.in1 (tryCatch (holding [.ref as[j + 1]] (call (.builtin "len") [.ref as[j + 1]])) _ >>= _) _ _ _
  refine wpAny_bind (wpAny_tryCatch (wpAny_holding (y41 lens hx keep' fun t2 tk2=> ?_)))
  show wpAny _ A.in1 (tryCatch (holding [.ref as[j + 1], .int (ls.getD (j + 1) 0:Nat) t2] (richCompare .Gt (.int (ls.getD (j + 1) 0:Nat) t2) (.int (ls.getD i 0:Nat) tb) >>= _)) _ >>= _) _ _ _
  refine wpAny_bind (wpAny_tryCatch (wpAny_holding (wpAny_bind (PyProof.Rows.gt_int ?_))))
  refine wpAny_bind (wpAny_holding (wpAny_truthy_bool ?_))
  refine wpAny_bind (wpAny_letGo (wpAny_pure ?_))
  by_cases hb':((ls.getD i 0:Nat):Int) < ((ls.getD (j + 1) 0:Nat):Int)
  ·obtain⟨c2,hc2⟩:∃c2,(h'.update S (Obj.mapSeq fun _=>#[.ref as[j + 1], .int (ls.getD (j + 1) 0:Nat) t2])).get? S=some (seqObj "list" #[.ref as[j + 1], .int (ls.getD (j + 1) 0:Nat) t2] c2):=⟨_,get?_update_seq gS' fun _=>#[.ref as[j + 1], .int (ls.getD (j + 1) 0:Nat) t2]⟩
   simp only [hb',decide_true,if_true]
   refine wpAny_bind ?_
   refine wpAny_updateSeq gS' rfl (wpAny_bind (wpAny_letGo ?_))
   rw [hname]
   obtain⟨oI,hoI,hoc⟩:=hit'
   refine wpAny_pure ⟨plainId_quiet yea _,ih (j + 1) (j + 1) _ _ _ t2 c2 (by omega) hlt (offU _ keep') hc2 ⟨oI,by rw [Heap.get?_update_ne _ _ _ _ hSI.symm]; exact hoI,hoc⟩ hx fun j' hj'=> ?_⟩
   by_cases e:j'=j + 1
   ·subst e; exact yc6 _
   ·have:=hbest j' (by omega)
    omega
  ·simp only [hb',decide_false,ydo,if_false]
   refine wpAny_bind (wpAny_letGo ?_)
   rw [hname]
   refine wpAny_pure ⟨plainId_quiet yea _,ih (j + 1) i a _ _ tb c (by omega) hlt keep' gS' hit' ha fun j' hj'=> ?_⟩
   by_cases e:j'=j + 1
   ·subst e; omega
   ·exact hbest j' (by omega)
theorem y9g{Q:Value→Shared→Prop}(hh:A.handled=none)(lens:∀(i:Nat) (a:Addr),as[i]? =some a→∃its:Array Value,s.heap.IsList a its∧its.size=ls.getD i 0∧its.size≤sizeLine)(hl:s.heap.IsList l (as.map Value.ref).toArray)
  (h0:as= []→∀h' tk,(∀b o,s.heap.get? b=some o→h'.get? b=some o)→Q d {s with heap:=h',toks:=tk})
  (hQ:∀i a h' tk,as[i]? =some a→(∀j,j < as.length→ls.getD j 0≤ls.getD i 0)→(∀b o,s.heap.get? b=some o→h'.get? b=some o)→Q (.ref a) {s with heap:=h',toks:=tk}) :
  wpAny (model prog w) A (call (.builtin "max") [.ref l] [(Str.ofString "key", .builtin "len"),(Str.ofString "default",d)]) Q E s:=by
 have hname:(toString "max" ++ toString ".loop" :String)="max.loop":=by decide
 obtain⟨ol,hol,_⟩:=id hl
 refine kmb_tree PySem.F.kind_max PySem.F.plain_max PySem.F.entry_max (y9c _ _ _) ?_
 show wpAny _ A.in1 (Builtin.Builtins.bindParams "max" ["key","default"] 0 ⟨[], [(Str.ofString "key", .builtin "len"),(Str.ofString "default",d)]⟩ >>= _) _ _ s
 refine wpAny_bind (wpAny_of_eq (show Builtin.Builtins.bindParams "max" ["key","default"] 0 ⟨[], [(Str.ofString "key", .builtin "len"),(Str.ofString "default",d)]⟩=pure [some (.builtin "len"),some d] from rfl) ?_)
 refine wpAny_bind (wpAny_pure ?_)
 refine wpAny_bind (wpAny_pyIter_list hl ?_)
 refine wpAny_bind (wpAny_newList ?_ (yd9 _))
 rw [hname]
 have hSz:(s.heap.push {cls:= .type "list_iterator",data:= .fields #[.ref l, .int 0 0]}).objs.size=s.heap.objs.size + 1:=size_push' ..
 have hSI:(s.heap.push {cls:= .type "list_iterator",data:= .fields #[.ref l, .int 0 0]}).objs.size ≠ s.heap.objs.size:=by rw [hSz]; exact ydf (yeh _)
 have hlI:l ≠ s.heap.objs.size:=ycj (Heap.lt_size hol)
 refine wpAny_pure ⟨plainId_quiet yea _, ?_⟩
 have keep:∀b o,s.heap.get? b=some o→((s.heap.push {cls:= .type "list_iterator",data:= .fields #[.ref l, .int 0 0]}).push (seqObj "list" #[] 0)).get? b=some o:=fun b o e=>Heap.get?_push_of_some _ (Heap.get?_push_of_some _ e)
 have gI:((s.heap.push {cls:= .type "list_iterator",data:= .fields #[.ref l, .int 0 0]}).push (seqObj "list" #[] 0)).get? s.heap.objs.size=some {cls:= .type "list_iterator",data:= .fields #[.ref l, .int 0 0]}:=
  Heap.get?_push_of_some _ (Heap.get?_push_size _ rfl)
 have gS:((s.heap.push {cls:= .type "list_iterator",data:= .fields #[.ref l, .int 0 0]}).push (seqObj "list" #[] 0)).get? (s.heap.push {cls:= .type "list_iterator",data:= .fields #[.ref l, .int 0 0]}).objs.size=some (seqObj "list" #[] 0):=Heap.get?_push_size _ rfl
 have W:=Walks.list (prog:=prog) (w:=w) (A:=A.in1) hh s.heap.objs.size l hlI (as.map Value.ref).toArray
 have hsz:(as.map Value.ref).toArray.size=as.length:=by rw [yc7,yc2]
 have hlk:((s.heap.push {cls:= .type "list_iterator",data:= .fields #[.ref l, .int 0 0]}).push (seqObj "list" #[] 0)).IsList l (as.map Value.ref).toArray:=by
  obtain⟨o,ho,x⟩:=id hl
  exact⟨o,keep _ _ ho,x⟩
 refine codeAny_builtin yge ?_
 rw [Around.under_plainId yea _]
 show wpAny _ A.in1 (seqItems? (.ref _) >>= _) _ _ _
 refine wpAny_bind (wpAny_seqItems gS rfl ?_)
 show wpAny _ A.in1 (tryCatch (pyNext (.ref s.heap.objs.size)) _ >>= _) _ _ _
 have off:∀{h':Heap},(∀b o,b ∉ [s.heap.objs.size]→((s.heap.push {cls:= .type "list_iterator",data:= .fields #[.ref l, .int 0 0]}).push (seqObj "list" #[] 0)).get? b=some o→h'.get? b=some o)→∀b o,s.heap.get? b=some o→h'.get? b=some o:=fun {h'} k' b o e=>k' b o (fun z=>by
  rw [ycb.mp z] at e
  exact absurd (Heap.lt_size e) (yd3 _)) (keep b o e)
 by_cases he:as= []
 ·refine wpAny_bind (wpAny_tryCatch (W.done _ _ _ ⟨by rw [hsz,he]; exact⟨_,gI,rfl,rfl⟩,hlk⟩ fun h' tk' hk'=> ?_))
  exact wpAny_bind (wpAny_rule (wpAny_pure (h0 he h' tk' (off hk'))))
 ·have hpos:0 < as.length:=yin.mpr he
  refine wpAny_bind (wpAny_tryCatch (W.item 0 _ _ _ (by rw [hsz]; exact hpos) ⟨⟨_,gI,rfl,rfl⟩,hlk⟩ fun v h' tk' hP hst' hk'=> ?_))
  have hv0:(as.map Value.ref)[0]? =some v:=by simpa using hP
  have hx:as[0]? =some as[0]:=yc4 hpos
  rw [yca,hx] at hv0
  have ev:v= .ref as[0]:=(Option.some.inj hv0).symm
  subst ev
  have keep':=off hk'
  have gS':=hk' _ _ (by simpa using hSI) gS
  obtain⟨oI,hoI,hoc⟩:=hst'.1
  show wpAny _ A.in1 (tryCatch (holding [.ref as[0]] (call (.builtin "len") [.ref as[0]])) _ >>= _) _ _ _
  refine wpAny_bind (wpAny_tryCatch (wpAny_holding (y41 lens hx keep' fun t2 tk2=> ?_)))
  obtain⟨c2,hc2⟩:∃c2,(h'.update (s.heap.push {cls:= .type "list_iterator",data:= .fields #[.ref l, .int 0 0]}).objs.size (Obj.mapSeq fun _=>#[.ref as[0], .int (ls.getD 0 0:Nat) t2])).get? (s.heap.push {cls:= .type "list_iterator",data:= .fields #[.ref l, .int 0 0]}).objs.size=some (seqObj "list" #[.ref as[0], .int (ls.getD 0 0:Nat) t2] c2):=⟨_,get?_update_seq gS' fun _=>#[.ref as[0], .int (ls.getD 0 0:Nat) t2]⟩
  show wpAny _ A.in1 (updateSeq (s.heap.push {cls:= .type "list_iterator",data:= .fields #[.ref l, .int 0 0]}).objs.size (fun _=>#[.ref as[0], .int (ls.getD 0 0:Nat) t2]) >>= _) _ _ _
  refine wpAny_bind ?_
  refine wpAny_updateSeq gS' rfl ?_
  rw [hname]
  refine wpAny_pure ⟨plainId_quiet yea _,y9a (h0:=s.heap) hh lens hl (yc6 _) (by rw [hSz]; exact yez _) hSI (fun i a h' tk a1 a2 a3=>hQ i a h' tk a1 a2 a3) _ 0 0 as[0] _ _ t2 c2 rfl hpos (fun b o e=> ?_) hc2 ⟨oI, ?_,hoc⟩ hx fun j' hj'=> ?_⟩
  ·rw [Heap.get?_update_ne _ _ _ _ (by rw [hSz]; exact ycj (ydi (Heap.lt_size e)))]
   exact keep' b o e
  ·rw [Heap.get?_update_ne _ _ _ _ hSI.symm]; exact hoI
  ·have e:j'=0:=by omega
   subst e; exact yc6 _
end
def y8o(K:yc3)(te:TE):TE:=fun σ H Q=>te σ H fun v H1=>∃(p:Addr) (as:List Addr) (ls:List Nat),v= .ref p∧SqL K H1 p (as.map V.ref)∧(∀(i:Nat) (a:Addr),as[i]? =some a→∃xs,SqL K H1 a xs∧xs.length=ls.getD i 0)∧
 ∀d,H1 d=none→(as= []→Q (.ref d) (upd H1 d (.lst [])))∧∀(i:Nat) (a:Addr),as[i]? =some a→(∀j,j < as.length→ls.getD j 0≤ls.getD i 0)→Q (.ref a) (upd H1 d (.lst []))
theorem xq{X:Cx}{K:yc3}{e:Expr}{te:TE}{p p2 p3 kp kp2 pos:Pos}(hK:X.K=K)(hc:X.calm=true)(hg:Gl X "max")(hm:X.mg "max" =none)(hgl:Gl X "len")(hml:X.mg "len" =none)(he:PE X e te)(hst:starEach [e] X.env= [(false,eval e X.env)]:=by rfl) :
  PE X (.Call (.Name "max" p) [e] [⟨some "key", .Name "len" p2,kp⟩,⟨some "default", .List [] p3,kp2⟩] pos) (y8o K te):=by
 subst hK
 intro pins s σ H Q I h
 refine wpAny_Call_Name_kw (JP I hg hm y43 ?_)
 refine PyProof.Rows.callWith_kw ?_ (by rw [hst]; rfl) (by rw [hst]; rfl)
 rw [hst]
 show wpAny _ _ (spliced ((false,eval e X.env) :: [])) _ _ s
 refine Calls.spliced_cons (thn (he pins s σ H _ I h) fun u s1 ⟨v,H1,I1,r1,q1⟩=>Calls.spliced_nil ?_)
 obtain⟨a,as,ls,rfl,hp,hrow,fin⟩:=q1
 cases r1
 refine PyProof.Rows.kws_cons (JP I1 hgl hml Yn (PyProof.Rows.kws_cons (thn (yZ y3 pins s1 σ H1 (fun v H2=>∃d,v= .ref d∧H1 d=none∧H2=upd H1 d (.lst [])) I1 ⟨yd9 _,fun d hd=>⟨d,rfl,hd,rfl⟩⟩) fun u2 s2 ⟨v2,H2,I2,r2,d,ev,hd,eH⟩=>PyProof.Rows.kws_nil ?_)))
 subst ev eH
 cases r2
 have lift:∀{x:Addr} {xs:List V},SqL X.K H1 x xs→SqL X.K (upd H1 d (.lst [])) x xs:=fun {x xs} hx=>by
  rcases hx with(hx | ⟨o,hx⟩) | hx
  ·exact .inl (.inl (by rw [yi (fun z=>by rw [z,hd] at hx; cases hx)]; exact hx))
  ·exact .inl (.inr ⟨o,by rw [yi (fun z=>by rw [z,hd] at hx; cases hx)]; exact hx⟩)
  ·exact .inr hx
 obtain⟨its,rv,pl,hz⟩:=I2.list (lift hp)
 have er:=qA rv
 subst er
 refine y9g (ls:=ls) (I2.ok.hd hc) (fun i a ha=> ?_) pl.isList (fun e h' tk k=>⟨.ref d,_,I2.kept k,rfl,(fin d hd).1 e⟩) fun i a h' tk ha hb k=>⟨.ref a,_,I2.kept k,rfl,(fin d hd).2 i a ha hb⟩
 obtain⟨xs,hx,hl⟩:=hrow i a ha
 obtain⟨its,rv,pl,hz⟩:=I2.list (lift hx)
 have e:=rv.length
 exact⟨its.toArray,pl.isList,by rw [yc7,←hl]; exact e.symm,by rw [yc7,←e]; exact hz⟩
theorem Z3{X:Cx}{K:yc3}(hK:X.K=K):Jd X (.builtin "len") (fun xs H Q=>∃p ys,xs= [.ref p]∧(SqL K H p ys∨SqT K H p ys)∧Q (.int ys.length) H):=by
 subst hK
 exact yO
end L2
namespace L2
open PySem PySem.Spec PyProof.Rows
section
variable{P:Program}{w:World}{K:yc3}{mg:Str→Option Value}{base:Heap}{k:Nat}{f:Addr}{fd:FuncData}{ps:List Str}{sp sp':Sp}
theorem yF{N:List Str}{qual:Str}{scope:Scope}{cd:Value}{A:Around}{outer:List Env}{s:Shared}{H:Hp}{E:XK}:QW (CXr P w) (JU (CXr P w) P w K mg base N qual scope f cd A outer s H E) E:=by
 intro pins σ H1 s1 e s2 I hq
 obtain⟨x,C,H',B,a0,rfl,F⟩:=hq
 refine wpAny_leaves_onW (base:=B) I.ok.frames rfl F.fly fun h' fly' up=> ?_
 have J:Inv (JU (CXr P w) P w K mg base N qual scope f cd A outer s H E) pins σ H' {s2 with heap:=h'}:=I.fly F fly'.1 up
 refine⟨x,C,H',B,a0,rfl,J.os,J.bare,J.base,J.hok,fly',fun b o e n=> ?_,F.trk,F.wish⟩
 obtain⟨o',e1⟩:=I.base.there b o e (by show b ∉ ([]:List Addr); simp)
 refine F.old b o' e1 fun hb=> ?_
 rcases ycg.mp (I.stkSub b hb) with z | z
 ·exact absurd (Heap.lt_size e) (by rw [z]; exact yhk.mpr I.ok.above)
 ·exact n z
theorem FnOk.lift(F:FnOk P w K mg base CX0 k f fd ps sp):FnOk P w K mg base (CXr P w) k f fd ps sp:=
 ⟨F.len,fun A outer s H args us vs Q E hr he hb hv hs=>codeAny_mono (F.run A outer s H args us vs Q E hr he hb hv hs) fun r s' hq=>by
  cases r with
  | error e=>exact False.elim hq
  | ok fl=>cases fl <;> exact hq⟩
theorem FnOk.or{CX:CXT}(F:FnOk P w K mg base CX k f fd ps sp)(F':FnOk P w K mg base CX k f fd ps sp'):FnOk P w K mg base CX k f fd ps (fun vs H Q E=>sp vs H Q E∨sp' vs H Q E):=
 ⟨fun vs H Q E h=>h.elim (F.len vs H Q E) (F'.len vs H Q E),fun A outer s H args us vs Q E hr he hb hv hs=>hs.elim (F.run A outer s H args us vs Q E hr he hb hv) (F'.run A outer s H args us vs Q E hr he hb hv)⟩
end
section
variable{X:Cx}{k k2:Nat}{f f2:Addr}{fd fd2:FuncData}{ps ps2:List Str}{sp sp2:Sp}{fx fx2 n cn:Str}{c e e2:Expr}{es es2:List Expr}{tc:TT}{t t2:TA}{b₀:Stmt}{suite:List Stmt}{j:Nat}{p pos spos p2 pos2 spos2 ipos cp hpos tpos:Pos}{hc:Value}{ts:TS}
def ybb(K:yc3)(tc:TT)(sp:Sp)(t:TA)(sp2:Sp)(t2:TA)(hc:Value)(j:Nat)(ts:TS):TS:=fun D σ H=>tc σ H fun b H0=>if b=true then t σ H0 fun vs H1=>sp vs H1 (fun _ H2=>D.nx σ H2) (y1l K hc j ts D σ) else t2 σ H0 fun vs H1=>sp2 vs H1 (fun _ H2=>D.nx σ H2) (y1l K hc j ts D σ)
theorem y5d(hcd:PT X.nox c tc)(F:FnOk X.prog X.w X.K X.mg X.base (CXr X.prog X.w) k f fd ps sp)(hr:Room k X.A)(hg:Gl X fx)(hm:X.mg fx=some (.ref f))(hk:yck X.K (.ref f)=true)(hb:Lu X.K fd ps [])(ha:PA X.nox (e :: es) t)
  (F2:FnOk X.prog X.w X.K X.mg X.base (CXr X.prog X.w) k2 f2 fd2 ps2 sp2) (hr2:Room k2 X.A) (hg2:Gl X fx2) (hm2:X.mg fx2=some (.ref f2)) (hk2:yck X.K (.ref f2)=true) (hb2:Lu X.K fd2 ps2 []) (ha2:PA X.nox (e2 :: es2) t2)
  (hcalm:X.calm=true) (hstk:X.stack=X.env :: X.outer) (hfr:X.env.frame=some X.env.locals) (hN:X.N.Nodup) (hj:X.N[j]? =some n) (hn:X.env.scope.names.lookup n=some .local)
  (hcn:∀{M:Model} {A:Around} {Ex:Value→Shared→Prop} {pins:List (Addr × Obj)} {σ:St} {H:Hp} {s:Shared} {Q:Value→Shared→Prop},Inv X pins σ H s→Q hc s→wpAny M A (eval (.Name cn cp) X.env) Q Ex s) (hs:∀a,PSs (exCx X a) (b₀ :: suite) ts)
  (hdb:(fx == ("__debug__" :Str))=false:=by decide) (he:starEach (e :: es) X.env=(false,eval e X.env) :: starEach es X.env:=by rfl) (hpl:(backTo pos (starEach es X.env)).any (·.1)=false:=by rfl)
  (hsw:swapsWith (.Call (.Name fx p) (e :: es) [] pos) none spos.line X.env=pure false:=by rfl)
  (hdb2:(fx2 == ("__debug__" :Str))=false:=by decide) (he2:starEach (e2 :: es2) X.env=(false,eval e2 X.env) :: starEach es2 X.env:=by rfl) (hpl2:(backTo pos2 (starEach es2 X.env)).any (·.1)=false:=by rfl)
  (hsw2:swapsWith (.Call (.Name fx2 p2) (e2 :: es2) [] pos2) none spos2.line X.env=pure false:=by rfl) :
  PS X (.Try [.If c [.Expr (.Call (.Name fx p) (e :: es) [] pos) spos] [.Expr (.Call (.Name fx2 p2) (e2 :: es2) [] pos2) spos2] ipos] [.ExceptHandler (some (.Name cn cp)) (some n) (b₀ :: suite) hpos] [] [] tpos) (ybb X.K tc sp t sp2 t2 hc j ts):=by
 intro pins s σ H D I h
 refine wpAny_Try_except (wpAny_execs_cons (wpAny_If (wpAny_mono (hcd pins s σ H _ (I.wish _) h) (fun d s0 ⟨H0,I0,q0⟩=> ?_) fun _ _ z=>z.elim)))
 have I0':Inv X pins σ H0 s0:=I0.unwish
 cases d with
 | true=>
  refine wpAny_execs_cons (wpAny_Expr_any (wpAny_Call_Name_kw (Mi I0' hg hm ?_ hdb)) I0'.quiet hsw)
  refine ygz (h₀:=X.base) I0'.ok.mod.kin hk ?_ he hpl
  refine wpAny_mono (ha pos pins s0 σ H0 _ (I0'.wish _) q0) (fun us s1 ⟨vs,H1,I1,r,q⟩=>⟨I1.kIn, ?_⟩) fun _ _ z=>z.elim
  have I1':Inv X pins σ H1 s1:=I1.unwish
  refine thn (y1g F hr hb I1' r q fun ev s' hq=>y4s I1' hq hcalm hstk hfr hN hj hn hcn hs) fun u s2 ⟨v,H2,I2,r2,q2⟩=> ?_
  exact wpAny_execs_nil (wpAny_execs_nil (wpAny_execs_nil ⟨_,H2,I2,q2⟩))
 | false=>
  refine wpAny_execs_cons (wpAny_Expr_any (wpAny_Call_Name_kw (Mi I0' hg2 hm2 ?_ hdb2)) I0'.quiet hsw2)
  refine ygz (h₀:=X.base) I0'.ok.mod.kin hk2 ?_ he2 hpl2
  refine wpAny_mono (ha2 pos2 pins s0 σ H0 _ (I0'.wish _) q0) (fun us s1 ⟨vs,H1,I1,r,q⟩=>⟨I1.kIn, ?_⟩) fun _ _ z=>z.elim
  have I1':Inv X pins σ H1 s1:=I1.unwish
  refine thn (y1g F2 hr2 hb2 I1' r q fun ev s' hq=>y4s I1' hq hcalm hstk hfr hN hj hn hcn hs) fun u s2 ⟨v,H2,I2,r2,q2⟩=> ?_
  exact wpAny_execs_nil (wpAny_execs_nil (wpAny_execs_nil ⟨_,H2,I2,q2⟩))
end
theorem y5p{X:Cx}:MtM X "list.insert" y98:=by
 intro pins s σ H x vs v us Q I rx rv h
 obtain⟨l,xs,y,i,rfl,rfl,hH,h0,h1,hz,q⟩:=h
 cases rx
 obtain⟨u1,u2,rfl,⟨t,rfl⟩,ru⟩:=MT rv
 obtain⟨z,its,n,r,hl,e⟩:=I.lstM hH
 have hlen:=r.length
 have hM:=AutoSeq1.list_insert_list_int_val_1 l its.toArray n i t u2 (by rw [fitsIndex_both (by omega) (by omega)]; decide) (by rw [yc7]; omega)
 refine call_meets F.slot_list_insert ⟨_,e,rfl⟩ F.entry_list_insert (F.args_list_insert_3 _ _ _) hM ⟨e, ?_⟩
 have hj:i.toNat≤its.length:=by omega
 refine⟨.non,_,I.lset (its':=its.take i.toNat ++ u2 :: its.drop i.toNat) (ys:=xs.take i.toNat ++ y :: xs.drop i.toNat) hH e ?_ ((r.take _).append (.cons ru (r.drop _))) ?_,rfl,q⟩
 ·have ek:(if i < 0 then(i + ((its.toArray.size:Nat):Int)).toNat else min i.toNat its.toArray.size)=i.toNat:=by
   rw [if_neg (by omega),yc7]; omega
  show(its.toArray.extract 0 (if i < 0 then(i + ((its.toArray.size:Nat):Int)).toNat else min i.toNat its.toArray.size)).push u2 ++ its.toArray.extract (if i < 0 then(i + ((its.toArray.size:Nat):Int)).toNat else min i.toNat its.toArray.size)=_
  rw [ek]
  apply Array.toList_inj.mp
  simp
  exact yen (by rw [ydt]; exact yc6 _)
 ·rw [ycr,yct,yd4,ydt,sizeLine_eq]; omega
end L2
namespace L2
open PySem PySem.Spec PyProof.Rows
theorem y8p:builtinKind "BaseException.__getattribute__" =some Manifest.AttrKind.slot:=by decide +kernel
theorem y7s:splitId "BaseException.__getattribute__" =some ("BaseException","__getattribute__"):=by decide +kernel
theorem y5z:plainId "BaseException.__getattribute__" =true:=by decide +kernel
theorem yac(a b:Value):argsOk "BaseException.__getattribute__" {pos:= [a,b]}:=by
 show(match Manifest.signature? "BaseException.__getattribute__" with | some sig=>Bind.checkArgs _ sig _ | none=>pure ())=pure ()
 rw [signature?_of (id:="BaseException.__getattribute__") (o:="BaseException".toList.reverse) (n:="__getattribute__".toList.reverse) (rows:=Manifest.sig_BaseException) (by rfl) (by rfl)]
 rfl
theorem y5s:entryFor table "BaseException.__getattribute__" =some Builtin.«object.__getattribute__»:=
 entryFor_alias (id':="object.__getattribute__") (by rfl) (by decide +kernel) (by decide +kernel) (by rfl)
theorem y9u(x:Value):bindSpecial (.builtin "BaseException.__getattribute__") x=pure (.builtin "BaseException.__getattribute__", [x]):=by
 have e:typeOf (.builtin "BaseException.__getattribute__")=pure (.type "wrapper_descriptor"):=by
  first | rfl | (unfold typeOf; rfl)
 unfold bindSpecial
 rw [e]
 rfl
theorem z6{K:yc3}{x C:Addr}{prog:Program}{w:World}{A:Around}{s:Shared}{R:Result→Shared→Prop}{tp:Value}(X:K.In s.heap)(L0:yf9 (model prog w) s.heap (typeOf (.ref x)) (.ref C))(hm:yeb K C (.type "object")=some true)(h:R (.ok (.ret (.ref C))) s) :
  codeAny (model prog w) A (.call (.builtin "getset_descriptor.__get__") {pos:= [.builtin "object.__class__", .ref x,tp]}) R s:=by
 obtain⟨hh,g,dr,t,os⟩:=s
 have L1:=yir (M:=model prog w) X hm
 refine codeAny_call_builtin PySem.W.KF.slot_gs.plain PySem.W.KF.entry_gs (PySem.W.KF.slot_gs.check _ _ _ _ _ _ _ _ PySem.W.KF.type_class (PySem.W.KF.args_gs _ _ _) ?_)
 show wpAny _ _ (Builtin.«getset_descriptor.__get__» _) _ _ _
 unfold Builtin.«getset_descriptor.__get__» Builtin.Getset_descriptor.descrGet
 rw [PySem.W.dga_obj]
 refine wpAny_bind (wpAny_pure ?_)
 unfold Builtin.Getset_descriptor.descrGetter Builtin.Getset_descriptor.descrCheckInstance
 dsimp only
 refine wpAny_bind (wpAny_bind ?_)
 unfold Builtin.Getset_descriptor.descrNameAndClass
 simp only [PySem.W.KF.owner_class]
 refine wpAny_pure ?_
 dsimp only
 refine wpAny_bind ?_
 unfold isInstance
 refine wpAny_bind (L0.at (L1.at ?_))
 simp only [ygj,ydo,if_false]
 refine wpAny_pure (wpAny_pure ⟨Code.quiet_builtin _ (by decide +kernel),codeAny_builtin PySem.W.KF.entry_class ?_⟩)
 unfold Builtin.«object.__class__» shownTypeOf
 refine wpAny_bind (wpAny_bind (L0.at ?_))
 exact wpAny_pure (wpAny_pure h)
theorem y2u{K:yc3}{x C:Addr}{prog:Program}{w:World}{A:Around}{E:Value→Shared→Prop}{s:Shared}{Q:Option Value→Shared→Prop}(X:K.In s.heap)(L0:yf9 (model prog w) s.heap (typeOf (.ref x)) (.ref C))
  (hg:yds K (.ref C) "__getattribute__" =some (some (.builtin "BaseException.__getattribute__"))) (hga:yds K (.ref C) "__getattr__" =some none) (ha:yds K (.ref C) "__class__" =some (some (.builtin "object.__class__")))
  (hm:yeb K C (.type "object")=some true) (hb:yeb K C (.type "BaseException")=some true)
  (hn:yga K (.builtin "object.__class__") "__get__" =some (some (.builtin "getset_descriptor.__get__"))) (ht:ygq K (.builtin "object.__class__")=some true) (h:Q (some (.ref C)) {s with toks:=s.toks + 1}):wpAny (model prog w) A (getAttr? (.ref x) (Str.ofString "__class__")) Q E s:=by
 obtain⟨hh,g,dr,t,os⟩:=s
 have Lg:=ygp (M:=model prog w) X hg
 have La:=ygp (M:=model prog w) X hga
 have Lc:=ygp (M:=model prog w) X ha
 unfold getAttr?
 refine wpAny_bind ?_
 unfold mkText
 refine wpAny_bind (wpAny_fresh' (wpAny_pure ?_))
 unfold getAttrBy?
 refine wpAny_bind (wpAny_attempt ?_)
 unfold getAttrBy
 refine wpAny_holding (wpAny_bind (L0.at (wpAny_bind (Lg.at ?_))))
 refine wpAny_ite_false rfl ?_
 unfold getAttrByItsOwn
 refine wpAny_bind ?_
 unfold hookBefore
 refine wpAny_ite_true rfl (La.at (wpAny_bind (wpAny_attempt (wpAny_holding ?_))))
 unfold callGetattribute
 refine wpAny_ite_false rfl ?_
 unfold boundAndCalled
 refine wpAny_bind ?_
 rw [y9u]
 refine wpAny_pure (wpAny_call (codeAny_call_builtin y5z y5s ?_))
 have Lb:=yir (M:=model prog w) X hb
 unfold checkBuiltinCall
 rw [y8p,y7s]
 dsimp only
 unfold isInstance
 refine wpAny_bind (wpAny_bind (L0.at (Lb.at ?_)))
 simp only [ygj,ydo,if_false]
 refine wpAny_of_eq (yac _ _) ?_
 unfold Builtin.«object.__getattribute__»
 have es:slotArgs "__getattribute__" 1 {pos:= [Value.ref x] ++ [Value.str (Str.ofString "__class__") t]}=pure (.ref x, [.str (Str.ofString "__class__") t]):=rfl
 rw [es]
 refine wpAny_bind (wpAny_pure ?_)
 dsimp only
 refine wpAny_bind (wpAny_pure (wpAny_bind (L0.at (wpAny_bind ?_))))
 unfold Builtin.ObjectAttr.find
 refine wpAny_bind (Lc.at (wpAny_bind ?_))
 unfold Builtin.ObjectAttr.getOf
 have Ls:=PySem.W.looks_specialIn (M:=model prog w) X hn
 have Lt:=PySem.W.looks_takesIn (M:=model prog w) X ht
 refine Ls.at (wpAny_bind ?_)
 unfold Builtin.ObjectAttr.dataDescriptor?
 refine wpAny_bind (Lt.at ?_)
 rw [if_pos rfl]
 refine wpAny_pure ?_
 dsimp only
 refine wpAny_bind (wpAny_rule (wpAny_pure ?_))
 dsimp only
 unfold Builtin.ObjectAttr.bindTo
 dsimp only
 refine wpAny_bind (wpAny_holding (wpAny_call (z6 X L0 hm ?_)))
 refine wpAny_pure ?_
 dsimp only
 exact wpAny_pure (wpAny_pure h)
structure ExC (K:yc3) (C:Addr):Prop where
 hg:yds K (.ref C) "__getattribute__" =some (some (.builtin "BaseException.__getattribute__"))
 hga:yds K (.ref C) "__getattr__" =some none
 ha:yds K (.ref C) "__class__" =some (some (.builtin "object.__class__"))
 hm:yeb K C (.type "object")=some true
 hb:yeb K C (.type "BaseException")=some true
 hn:yga K (.builtin "object.__class__") "__get__" =some (some (.builtin "getset_descriptor.__get__"))
 ht:ygq K (.builtin "object.__class__")=some true
theorem y1k{K:yc3}{D:Addr}{M:Model}{h:Heap}{c:Value}{b:Bool}(X:K.In h)(hm:yeb K D c=some b):yf9 M h (isType (.ref D)) true:=by
 unfold yeb PySem.W.clsIn at hm
 split at hm
 ·rename_i cls dict cd slots heq
  intro A' Q' E' s' k q
  unfold isType
  exact wpAny_bind (wpAny_loadPart (k D _ (X D _ heq)) (wpAny_pure q))
 ·cases hm
theorem zW{K:yc3}{a:Addr}{C c:Value}{b:Bool}(e:yd7 K C c=some b)(hx:b=false→∃D,C= .ref D∧ExC K D):Answers (fun s=>K.In s.heap∧∃oe,s.heap.get? a=some oe∧oe.cls=C) (.ref a) c b:=by
 cases b with
 | true=>exact y09 e
 | false=>
 intro dep tk prog w A R s hs
 obtain⟨h0,g,d,tt,os⟩:=s
 obtain⟨⟨X,oe,e1,e2⟩,hq⟩:=hs
 have LT:=xr (M:=model prog w) e1 e2
 unfold yd7 at e
 unfold Builtin.«isinstance.nested»
 refine wpAny_bind (LT.at ?_)
 by_cases q:(C == c)=true
 ·rw [if_pos q] at e
  cases e
 ·rw [if_neg q] at e
  rw [if_neg q]
  obtain⟨hty,his,hsub⟩:=PySem.W.kit_cls (M:=model prog w) X e
  have LI:yf9 (model prog w) h0 (isInstance (.ref a) c) false:=LT.andThen hsub
  refine wpAny_bind (hty.at ?_)
  rw [if_pos (by decide)]
  k_delta "plainIsInstance"
  refine wpAny_bind (wpAny_bind (his.at ?_))
  simp only [ygj,ydo,if_false]
  refine wpAny_bind (LI.at ?_)
  simp only [ydo,if_false]
  obtain⟨D,rfl,x⟩:=hx rfl
  refine wpAny_bind (y2u X LT x.hg x.hga x.ha x.hm x.hb x.hn x.ht ?_)
  dsimp only
  have Lt:yf9 (model prog w) h0 (isType (.ref D)) true:=y1k X x.hm
  refine wpAny_bind (Lt.at ?_)
  simp only [ygj,ydo,if_false]
  refine wpAny_bind (wpAny_rule (hsub.at ?_))
  exact wpAny_pure (hq _)
section
variable{X:Cx}
theorem ze:Jd X (.builtin "isinstance") (fun xs H Q=>∃(a:Addr) (cv:V) (c C:Value) (b:Bool),xs= [.ref a,cv]∧clsV cv=some c∧H a=some (MI a C)∧yd7 X.K C c=some b∧(b=false→∃D,C= .ref D∧ExC X.K D)∧Q (.bl b) H):=by
 intro pins s σ H xs us Q I r h
 obtain⟨a,cv,c,C,b,rfl,rc,ha,e,hx,q⟩:=h
 obtain⟨u,u2,rfl,rx,r2⟩:=MT r
 cases rx
 have eu:u2=c:=by
  cases cv with
  | ref b=>cases r2; exact Option.some.inj rc
  | ty n=>cases r2; exact Option.some.inj rc
  | _=>cases rc
 subst eu
 obtain⟨⟨oe,vs,e1,e2,_⟩,_,_⟩:=(show yR X.prog X.w H s.heap a (MI a C) from I.hok a _ ha)
 exact call_isinstance (S:=fun _ R s=>(X.K.In s.heap∧∃oe,s.heap.get? a=some oe∧oe.cls=C)∧∀tk,R (.ok (.ret (.bool b))) {s with toks:=tk})
  (fun prog w A R s hs=>isinstance_outer (zW e hx 0 _ prog w A R s hs) (by intro z; cases z)) ⟨⟨I.kIn,oe,e1,e2⟩,fun tk=>⟨.bl b,H,I.tok _,rfl,q⟩⟩
def rIsiB(K:yc3):List V→Hp→VK→Prop:=fun xs H Q=>∃(a:Addr) (cv:V) (c C:Value) (b:Bool),xs= [.ref a,cv]∧clsV cv=some c∧H a=some (MI a C)∧yd7 K C c=some b∧(b=false→∃D,C= .ref D∧ExC K D)∧Q (.bl b) H
theorem Jo{K:yc3}(h:X.K=K):Jd X (.builtin "isinstance") (rIsiB K):=by
 subst h
 exact ze
end
theorem FunC.okX{P:Program}{w:World}{K:yc3}{mg:Str→Option Value}{base:Heap}{x qual:Str}{st:Stmt}{f c:Addr}{fd:FuncData}{N ps:List Str}{k:Nat}{sp:Sp}(F:FunC K x qual st f fd c)(S:FnScope N ps (ya st))(len:∀vs H Q E,sp vs H Q E→vs.length=ps.length)
  (hbody:∀(A:Around) (outer:List Env) (s:Shared) (H:Hp) (vs:List V) (Q:VK) (E:XK),Room k (A.deeper (envOfC qual (ya st) s.heap.objs.size f (.ref c)))→sp vs H Q E→
   ∃t,PSs (JU (CXr P w) P w K mg base N qual (ya st) f (.ref c) A outer s H E) (yu st) t∧t {nx:=fun _ H'=>Q .non H',rt:=Q} (start N vs) H):FnOk P w K mg base (CXr P w) (k + 1) f fd ps sp:=by
 obtain⟨oc,od,kV,doc,pm,an,ct,osl,rfl,lk,hcd⟩:=F.ex
 exact zn lk hcd S len fun A outer s H vs Q E hr hsp=>hbody A outer s H vs Q E hr hsp
end L2
namespace Toy
open PySem L2 Gra
def top(i:Nat):Stmt:=PySem.Challenge.pw_lanemap_k13_no_place.main.body.getD i (.Pass ⟨0,0,0,0⟩)
abbrev YD:Stmt:=top 6
theorem y00:FnScope ["count","numbers"] ["count","numbers"] (ya YD):=⟨rfl,rfl,rfl,by decide +kernel,rfl,by decide +kernel,by decide +kernel⟩
abbrev YG:List Str:= ["count","numbers"]
abbrev yG:Stmt:=top 7
theorem Z5:FnScope ["count","numbers"] ["count","numbers"] (ya yG):=⟨rfl,rfl,rfl,by decide +kernel,rfl,by decide +kernel,by decide +kernel⟩
abbrev yk:List Str:= ["count","numbers"]
abbrev yw:Stmt:=top 8
theorem VA:FnScope ["count","lanes","lane"] ["count","lanes"] (ya yw):=⟨rfl,rfl,rfl,by decide +kernel,rfl,by decide +kernel,by decide +kernel⟩
abbrev yh:List Str:= ["count","lanes"]
abbrev YT:Stmt:=top 9
theorem y1r:FnScope ["ties"] ["ties"] (ya YT):=⟨rfl,rfl,rfl,by decide +kernel,rfl,by decide +kernel,by decide +kernel⟩
abbrev YS:List Str:= ["ties"]
abbrev Yj:Stmt:=top 10
theorem qy:FnScope ["lanes","gone"] ["lanes","gone"] (ya Yj):=⟨rfl,rfl,rfl,by decide +kernel,rfl,by decide +kernel,by decide +kernel⟩
abbrev Yt:List Str:= ["lanes","gone"]
abbrev J5:Stmt:=top 11
theorem Le:FnScope ["lanes","ends","lane"] ["lanes"] (ya J5):=⟨rfl,rfl,rfl,by decide +kernel,rfl,by decide +kernel,by decide +kernel⟩
abbrev j3:List Str:= ["lanes"]
abbrev jI:Stmt:=top 12
theorem Vt:FnScope ["lanes","start","ends","ahead","found","at","place","end"] ["lanes","start"] (ya jI):=⟨rfl,rfl,rfl,by decide +kernel,rfl,by decide +kernel,by decide +kernel⟩
abbrev jn:List Str:= ["lanes","start"]
abbrev jM:Stmt:=top 13
theorem Q1:FnScope ["ahead","place","row"] ["ahead","place"] (ya jM):=⟨rfl,rfl,rfl,by decide +kernel,rfl,by decide +kernel,by decide +kernel⟩
abbrev jj:List Str:= ["ahead","place"]
abbrev Yv:Stmt:=top 14
theorem ZD:FnScope ["lanes","one","other","ahead"] ["lanes","one","other"] (ya Yv):=⟨rfl,rfl,rfl,by decide +kernel,rfl,by decide +kernel,by decide +kernel⟩
abbrev Yg:List Str:= ["lanes","one","other"]
abbrev JI:Stmt:=top 16
theorem y1w:FnScope ["reached","place"] ["reached","place"] (ya JI):=⟨rfl,rfl,rfl,by decide +kernel,rfl,by decide +kernel,by decide +kernel⟩
abbrev Vn:List Str:= ["reached","place"]
abbrev J3:Stmt:=top 17
theorem Mh:FnScope ["count","lanes","reached","around_each","each_once"] ["count","lanes"] (ya J3):=⟨rfl,rfl,rfl,by decide +kernel,rfl,by decide +kernel,by decide +kernel⟩
abbrev JJ:List Str:= ["count","lanes"]
abbrev Yr:Stmt:=top 18
theorem YU:FnScope ["count","lanes","told","numbers","number","part","place"] ["count","lanes"] (ya Yr):=⟨rfl,rfl,rfl,by decide +kernel,rfl,by decide +kernel,by decide +kernel⟩
abbrev Yl:List Str:= ["count","lanes"]
abbrev Yd:Stmt:=top 19
theorem j4:FnScope ["count","lanes","numbers","pairs"] ["count","lanes"] (ya Yd):=⟨rfl,rfl,rfl,by decide +kernel,rfl,by decide +kernel,by decide +kernel⟩
abbrev Yu:List Str:= ["count","lanes"]
abbrev Ye:Stmt:=top 20
theorem jk:FnScope ["count","lanes","rows","pair"] ["count","lanes"] (ya Ye):=⟨rfl,rfl,rfl,by decide +kernel,rfl,by decide +kernel,by decide +kernel⟩
abbrev Y8:List Str:= ["count","lanes"]
abbrev jt:Stmt:=top 21
theorem WG:FnScope ["count","lanes"] ["count","lanes"] (ya jt):=⟨rfl,rfl,rfl,by decide +kernel,rfl,by decide +kernel,by decide +kernel⟩
abbrev Vd:List Str:= ["count","lanes"]
abbrev jc:Stmt:=top 22
theorem xF:FnScope ["count","lanes"] ["count","lanes"] (ya jc):=⟨rfl,rfl,rfl,by decide +kernel,rfl,by decide +kernel,by decide +kernel⟩
abbrev jF:List Str:= ["count","lanes"]
abbrev Jh:Stmt:=top 23
theorem VY:FnScope ["count","lanes","one","other","there","back"] ["count","lanes","one","other"] (ya Jh):=⟨rfl,rfl,rfl,by decide +kernel,rfl,by decide +kernel,by decide +kernel⟩
abbrev JL:List Str:= ["count","lanes","one","other"]
abbrev Js:Stmt:=top 25
theorem jC:FnScope ["count","lanes","start","found","reached","gone","left","place"] ["count","lanes","start"] (ya Js):=⟨rfl,rfl,rfl,by decide +kernel,rfl,by decide +kernel,by decide +kernel⟩
abbrev Ja:List Str:= ["count","lanes","start"]
abbrev Vy:Stmt:=top 26
theorem Q2:FnScope ["count","lanes","start","place","ahead"] ["count","lanes","start","place"] (ya Vy):=⟨rfl,rfl,rfl,by decide +kernel,rfl,by decide +kernel,by decide +kernel⟩
abbrev L5:List Str:= ["count","lanes","start","place"]
abbrev YY:Stmt:=top 28
theorem LK:FnScope ["ties","number","others","told"] ["ties","number"] (ya YY):=⟨rfl,rfl,rfl,by decide +kernel,rfl,by decide +kernel,by decide +kernel⟩
abbrev Jm:List Str:= ["ties","number"]
abbrev YE:Stmt:=top 29
theorem YJ:FnScope ["count","ties","groups","numbers","number","tie","kept","merged"] ["count","ties"] (ya YE):=⟨rfl,rfl,rfl,by decide +kernel,rfl,by decide +kernel,by decide +kernel⟩
abbrev JE:List Str:= ["count","ties"]
abbrev JS:Stmt:=top 30
theorem x9:FnScope ["count","ties"] ["count","ties"] (ya JS):=⟨rfl,rfl,rfl,by decide +kernel,rfl,by decide +kernel,by decide +kernel⟩
abbrev jE:List Str:= ["count","ties"]
abbrev j9:Stmt:=top 31
theorem xE:FnScope ["count","ties","number"] ["count","ties","number"] (ya j9):=⟨rfl,rfl,rfl,by decide +kernel,rfl,by decide +kernel,by decide +kernel⟩
abbrev jB:List Str:= ["count","ties","number"]
abbrev YX:Stmt:=top 32
theorem zT:FnScope ["ties","place"] ["ties","place"] (ya YX):=⟨rfl,rfl,rfl,by decide +kernel,rfl,by decide +kernel,by decide +kernel⟩
abbrev jr:List Str:= ["ties","place"]
abbrev Yp:Stmt:=top 33
theorem Ld:FnScope ["ties","place","near","ahead"] ["ties","place"] (ya Yp):=⟨rfl,rfl,rfl,by decide +kernel,rfl,by decide +kernel,by decide +kernel⟩
abbrev J6:List Str:= ["ties","place"]
abbrev J1:Stmt:=top 34
theorem Q6:FnScope ["count","ties"] ["count","ties"] (ya J1):=⟨rfl,rfl,rfl,by decide +kernel,rfl,by decide +kernel,by decide +kernel⟩
abbrev JO:List Str:= ["count","ties"]
abbrev Jf:Stmt:=top 35
theorem Q5:FnScope ["count","ties","place"] ["count","ties","place"] (ya Jf):=⟨rfl,rfl,rfl,by decide +kernel,rfl,by decide +kernel,by decide +kernel⟩
abbrev JN:List Str:= ["count","ties","place"]
abbrev jq:Stmt:=top 37
theorem Qn:FnScope ["count","lanes","row","steps"] ["count","lanes","row"] (ya jq):=⟨rfl,rfl,rfl,by decide +kernel,rfl,by decide +kernel,by decide +kernel⟩
abbrev Vf:List Str:= ["count","lanes","row"]
abbrev JX:Stmt:=top 38
theorem MR:FnScope ["count","lanes","row","inside","leading_out"] ["count","lanes","row"] (ya JX):=⟨rfl,rfl,rfl,by decide +kernel,rfl,by decide +kernel,by decide +kernel⟩
abbrev Vj:List Str:= ["count","lanes","row"]
abbrev Lq:Stmt:=top 39
theorem y36:FnScope ["count","lanes","one","other"] ["count","lanes","one","other"] (ya Lq):=⟨rfl,rfl,rfl,by decide +kernel,rfl,by decide +kernel,by decide +kernel⟩
abbrev M1:List Str:= ["count","lanes","one","other"]
abbrev jT:Stmt:=top 40
theorem WO:FnScope ["count","lanes","one","other","gone"] ["count","lanes","one","other","gone"] (ya jT):=⟨rfl,rfl,rfl,by decide +kernel,rfl,by decide +kernel,by decide +kernel⟩
abbrev Ve:List Str:= ["count","lanes","one","other","gone"]
abbrev jP:Stmt:=top 41
theorem W3:FnScope ["count","ties","one","other"] ["count","ties","one","other"] (ya jP):=⟨rfl,rfl,rfl,by decide +kernel,rfl,by decide +kernel,by decide +kernel⟩
abbrev Vl:List Str:= ["count","ties","one","other"]
abbrev VZ:Stmt:=top 43
theorem yam:FnScope ["_law_script","_law_small","_law_great"] ["_law_script","_law_small","_law_great"] (ya VZ):=⟨rfl,rfl,rfl,by decide +kernel,rfl,by decide +kernel,by decide +kernel⟩
abbrev Mr:List Str:= ["_law_script","_law_small","_law_great"]
abbrev Vc:Stmt:=top 44
theorem y7c:FnScope ["_law_found"] ["_law_found"] (ya Vc):=⟨rfl,rfl,rfl,by decide +kernel,rfl,by decide +kernel,by decide +kernel⟩
abbrev LC:List Str:= ["_law_found"]
abbrev ZB:Stmt:=top 45
theorem scLAt:FnScope ["_law_script","_law_k"] ["_law_script","_law_k"] (ya ZB):=⟨rfl,rfl,rfl,by decide +kernel,rfl,by decide +kernel,by decide +kernel⟩
abbrev qv:List Str:= ["_law_script","_law_k"]
abbrev j8:Stmt:=top 46
theorem JH:FnScope ["_law_cells","_law_count","_law_seed","_law_lanes","_law_hop","_law_k","_law_one","_law_other"] ["_law_cells","_law_count","_law_seed"] (ya j8):=⟨rfl,rfl,rfl,by decide +kernel,rfl,by decide +kernel,by decide +kernel⟩
abbrev Vm:List Str:= ["_law_cells","_law_count","_law_seed"]
abbrev Jl:Stmt:=top 47
theorem Zh:FnScope ["_law_found","_law_lanes","_law_k"] ["_law_found","_law_lanes"] (ya Jl):=⟨rfl,rfl,rfl,by decide +kernel,rfl,by decide +kernel,by decide +kernel⟩
abbrev jo:List Str:= ["_law_found","_law_lanes"]
abbrev Vk:Stmt:=top 48
theorem y6o:FnScope ["_law_way","_law_count","_law_lanes"] ["_law_way","_law_count","_law_lanes"] (ya Vk):=⟨rfl,rfl,rfl,by decide +kernel,rfl,by decide +kernel,by decide +kernel⟩
abbrev LB:List Str:= ["_law_way","_law_count","_law_lanes"]
abbrev j6:Stmt:=top 49
theorem y2k:FnScope ["_law_way","_law_count","_law_lanes","_law_one","_law_other","_law_gone"] ["_law_way","_law_count","_law_lanes","_law_one","_law_other","_law_gone"] (ya j6):=⟨rfl,rfl,rfl,by decide +kernel,rfl,by decide +kernel,by decide +kernel⟩
abbrev Vo:List Str:= ["_law_way","_law_count","_law_lanes","_law_one","_law_other","_law_gone"]
abbrev j7:Stmt:=top 50
theorem QX:FnScope ["_law_way","_law_count","_law_lanes","_law_one","_law_other","_law_gone","e"] ["_law_way","_law_count","_law_lanes","_law_one","_law_other","_law_gone"] (ya j7):=⟨rfl,rfl,rfl,by decide +kernel,rfl,by decide +kernel,by decide +kernel⟩
abbrev Vh:List Str:= ["_law_way","_law_count","_law_lanes","_law_one","_law_other","_law_gone"]
abbrev Mf:Stmt:=top 51
theorem JA:FnScope ["_law_script","_law_count","_law_cells","_law_lanes","_law_seed","_law_strange","_law_one","_law_other","_law_gone","_law_handed","_law_way","_law_lane","_law_due"] ["_law_script"] (ya Mf):=⟨rfl,rfl,rfl,by decide +kernel,rfl,by decide +kernel,by decide +kernel⟩
abbrev PLaw:List Str:= ["_law_script"]
theorem Vv{s0 s1 s2:TS}{D:Ends}{σ:St}{H:Hp}(h:let R2:=s2; let R1:=yI s1 R2; yI s0 R1 D σ H):(yI s0 (yI s1 s2)) D σ H:=h
theorem QD{s0 s1 s2 s3:TS}{D:Ends}{σ:St}{H:Hp}(h:let R3:=s3; let R2:=yI s2 R3; let R1:=yI s1 R2; yI s0 R1 D σ H):(yI s0 (yI s1 (yI s2 s3))) D σ H:=h
theorem zm{s0 s1 s2 s3 s4:TS}{D:Ends}{σ:St}{H:Hp}(h:let R4:=s4; let R3:=yI s3 R4; let R2:=yI s2 R3; let R1:=yI s1 R2; yI s0 R1 D σ H):(yI s0 (yI s1 (yI s2 (yI s3 s4)))) D σ H:=h
theorem y88{s0 s1 s2 s3 s4 s5:TS}{D:Ends}{σ:St}{H:Hp}(h:let R5:=s5; let R4:=yI s4 R5; let R3:=yI s3 R4; let R2:=yI s2 R3; let R1:=yI s1 R2; yI s0 R1 D σ H):(yI s0 (yI s1 (yI s2 (yI s3 (yI s4 s5))))) D σ H:=h
theorem hide7{s0 s1 s2 s3 s4 s5 s6:TS}{D:Ends}{σ:St}{H:Hp}(h:let R6:=s6; let R5:=yI s5 R6; let R4:=yI s4 R5; let R3:=yI s3 R4; let R2:=yI s2 R3; let R1:=yI s1 R2; yI s0 R1 D σ H):(yI s0 (yI s1 (yI s2 (yI s3 (yI s4 (yI s5 s6)))))) D σ H:=h
theorem yba{s0 s1 s2 s3 s4 s5 s6 s7 s8 s9 s10 s11 s12 s13 s14:TS}{D:Ends}{σ:St}{H:Hp}(h:let R14:=s14; let R13:=yI s13 R14; let R12:=yI s12 R13; let R11:=yI s11 R12; let R10:=yI s10 R11; let R9:=yI s9 R10; let R8:=yI s8 R9; let R7:=yI s7 R8; let R6:=yI s6 R7; let R5:=yI s5 R6; let R4:=yI s4 R5; let R3:=yI s3 R4; let R2:=yI s2 R3; let R1:=yI s1 R2; yI s0 R1 D σ H):(yI s0 (yI s1 (yI s2 (yI s3 (yI s4 (yI s5 (yI s6 (yI s7 (yI s8 (yI s9 (yI s10 (yI s11 (yI s12 (yI s13 s14)))))))))))))) D σ H:=h
theorem WB:CompSc (ya YD) {kind:= .function,names:= [(".0", .local),("number", .local),("count", .free)],isGenerator:=false,isCoroutine:=false,more:= []} ["count","numbers"] "number" ["count"] [0]:=⟨by decide +kernel,rfl,by decide +kernel,rfl,by decide +kernel,by decide +kernel,rfl,by decide +kernel⟩
theorem y0b:CompSc (ya YT) {kind:= .function,names:= [(".0", .local),("tie", .local)],isGenerator:=false,isCoroutine:=false,more:= []} ["ties"] "tie" [] []:=⟨by decide +kernel,rfl,by decide +kernel,rfl,by decide +kernel,by decide +kernel,rfl,by decide +kernel⟩
theorem QT:CompSc (ya Yj) {kind:= .function,names:= [(".0", .local),("lane", .local),("gone", .free)],isGenerator:=false,isCoroutine:=false,more:= []} ["lanes","gone"] "lane" ["gone"] [1]:=⟨by decide +kernel,rfl,by decide +kernel,rfl,by decide +kernel,by decide +kernel,rfl,by decide +kernel⟩
theorem y0d:CompSc (ya JI) {kind:= .function,names:= [(".0", .local),("other", .local),("place", .free),("reached", .free)],isGenerator:=false,isCoroutine:=false,more:= []} ["reached","place"] "other" ["place","reached"] [1,0]:=⟨by decide +kernel,rfl,by decide +kernel,rfl,by decide +kernel,by decide +kernel,rfl,by decide +kernel⟩
theorem y7v:CompSc (ya J3) {kind:= .function,names:= [(".0", .local),("place", .local),("around_each", .free)],isGenerator:=false,isCoroutine:=false,more:= []} ["count","lanes","reached","around_each","each_once"] "place" ["around_each"] [3]:=⟨by decide +kernel,rfl,by decide +kernel,rfl,by decide +kernel,by decide +kernel,rfl,by decide +kernel⟩
theorem y6p:CompSc (ya J3) {kind:= .function,names:= [(".0", .local),("place", .local),("part_with", .globalImplicit),("reached", .free)],isGenerator:=false,isCoroutine:=false,more:= []} ["count","lanes","reached","around_each","each_once"] "place" ["reached"] [2]:=⟨by decide +kernel,rfl,by decide +kernel,rfl,by decide +kernel,by decide +kernel,rfl,by decide +kernel⟩
theorem y6n:CompSc (ya J3) {kind:= .function,names:= [(".0", .local),("place", .local),("reach", .globalImplicit),("lanes", .free)],isGenerator:=false,isCoroutine:=false,more:= []} ["count","lanes","reached","around_each","each_once"] "place" ["lanes"] [1]:=⟨by decide +kernel,rfl,by decide +kernel,rfl,by decide +kernel,by decide +kernel,rfl,by decide +kernel⟩
theorem QL:CompSc (ya Yd) {kind:= .function,names:= [(".0", .local),("pair", .local)],isGenerator:=false,isCoroutine:=false,more:= []} ["count","lanes","numbers","pairs"] "pair" [] []:=⟨by decide +kernel,rfl,by decide +kernel,rfl,by decide +kernel,by decide +kernel,rfl,by decide +kernel⟩
theorem q9:CompSc (ya Yd) {kind:= .function,names:= [(".0", .local),("lane", .local),("numbers", .free)],isGenerator:=false,isCoroutine:=false,more:= []} ["count","lanes","numbers","pairs"] "lane" ["numbers"] [2]:=⟨by decide +kernel,rfl,by decide +kernel,rfl,by decide +kernel,by decide +kernel,rfl,by decide +kernel⟩
theorem Ms:CompSc (ya Ye) {kind:= .function,names:= [(".0", .local),("number", .local)],isGenerator:=false,isCoroutine:=false,more:= []} ["count","lanes","rows","pair"] "number" [] []:=⟨by decide +kernel,rfl,by decide +kernel,rfl,by decide +kernel,by decide +kernel,rfl,by decide +kernel⟩
theorem xi:CompSc (ya jt) {kind:= .function,names:= [(".0", .local),("row", .local),("len", .globalImplicit)],isGenerator:=false,isCoroutine:=false,more:= []} ["count","lanes"] "row" [] []:=⟨by decide +kernel,rfl,by decide +kernel,rfl,by decide +kernel,by decide +kernel,rfl,by decide +kernel⟩
theorem QM:CompSc (ya YE) {kind:= .function,names:= [(".0", .local),("group", .local),("kept", .free),("merged", .free)],isGenerator:=false,isCoroutine:=false,more:= []} ["count","ties","groups","numbers","number","tie","kept","merged"] "group" ["kept","merged"] [6,7]:=⟨by decide +kernel,rfl,by decide +kernel,rfl,by decide +kernel,by decide +kernel,rfl,by decide +kernel⟩
theorem y2h:CompSc (ya JS) {kind:= .function,names:= [(".0", .local),("number", .local),("ring_or_wall", .globalImplicit),("ties", .free)],isGenerator:=false,isCoroutine:=false,more:= []} ["count","ties"] "number" ["ties"] [1]:=⟨by decide +kernel,rfl,by decide +kernel,rfl,by decide +kernel,by decide +kernel,rfl,by decide +kernel⟩
theorem zi:CompSc (ya YX) {kind:= .function,names:= [(".0", .local),("lane", .local),("place", .free)],isGenerator:=false,isCoroutine:=false,more:= []} ["ties","place"] "lane" ["place"] [1]:=⟨by decide +kernel,rfl,by decide +kernel,rfl,by decide +kernel,by decide +kernel,rfl,by decide +kernel⟩
theorem qL:CompSc (ya Yp) {kind:= .function,names:= [(".0", .local),("neighbour", .local),("ahead", .free)],isGenerator:=false,isCoroutine:=false,more:= []} ["ties","place","near","ahead"] "neighbour" ["ahead"] [3]:=⟨by decide +kernel,rfl,by decide +kernel,rfl,by decide +kernel,by decide +kernel,rfl,by decide +kernel⟩
theorem qI:CompSc (ya Yp) {kind:= .function,names:= [(".0", .local),("neighbour", .local),("row_to", .globalImplicit),("ahead", .free)],isGenerator:=false,isCoroutine:=false,more:= []} ["ties","place","near","ahead"] "neighbour" ["ahead"] [3]:=⟨by decide +kernel,rfl,by decide +kernel,rfl,by decide +kernel,by decide +kernel,rfl,by decide +kernel⟩
theorem WJ:CompSc (ya J1) {kind:= .function,names:= [(".0", .local),("place", .local),("walks_or_wall", .globalImplicit),("ties", .free)],isGenerator:=false,isCoroutine:=false,more:= []} ["count","ties"] "place" ["ties"] [1]:=⟨by decide +kernel,rfl,by decide +kernel,rfl,by decide +kernel,by decide +kernel,rfl,by decide +kernel⟩
theorem y52:CompSc (ya JX) {kind:= .function,names:= [(".0", .local),("lane", .local),("inside", .free)],isGenerator:=false,isCoroutine:=false,more:= []} ["count","lanes","row","inside","leading_out"] "lane" ["inside"] [3]:=⟨by decide +kernel,rfl,by decide +kernel,rfl,by decide +kernel,by decide +kernel,rfl,by decide +kernel⟩
theorem y5e:CompSc (ya JX) {kind:= .function,names:= [(".0", .local),("place", .local)],isGenerator:=false,isCoroutine:=false,more:= []} ["count","lanes","row","inside","leading_out"] "place" [] []:=⟨by decide +kernel,rfl,by decide +kernel,rfl,by decide +kernel,by decide +kernel,rfl,by decide +kernel⟩
theorem y5t:LamSc {kind:= .function,names:= [("part", .local),("reached", .free),("len", .globalImplicit)],isGenerator:=false,isCoroutine:=false,more:= []} "part" "reached":=⟨by decide +kernel,rfl,rfl,rfl,by decide +kernel,by decide +kernel,by decide +kernel,by decide,by decide,by decide⟩
structure DefAt (K:yc3) (mg:Str→Option Value) (x:Str) (st:Stmt) (ps:List Str) (f:Addr) (fd:FuncData):Prop where
 F:Fun K x x st f fd
 b:Lu K fd ps []
 m:mg x=some (.ref f)
structure Zs (mg:Str→Option Value):Prop where
 ValueError:mg "ValueError" =none
 all:mg "all" =none
 bool:mg "bool" =none
 dict:mg "dict" =none
 enumerate:mg "enumerate" =none
 int:mg "int" =none
 isinstance:mg "isinstance" =none
 len:mg "len" =none
 list:mg "list" =none
 max:mg "max" =none
 range:mg "range" =none
 reversed:mg "reversed" =none
 set:mg "set" =none
 sorted:mg "sorted" =none
 tuple:mg "tuple" =none
 zip:mg "zip" =none
def qg(K:yc3):Sp:=fun vs H Q _=>∃(n:Int) (a:Addr) (ns:List Int),vs= [.int n, .ref a]∧(SqL K H a (ns.map V.int)∨SqT K H a (ns.map V.int))∧ns.length≤1000∧
 ∀H',yg H H'→Q (.bl (ns.all fun x=>decide (0≤x) && decide (x < n))) H'
def jS(K:yc3):Sp:=fun vs H Q _=>∃(n:Int) (a:Addr) (ns:List Int),vs= [.int n, .ref a]∧(SqL K H a (ns.map V.int)∨SqT K H a (ns.map V.int))∧ns.length≤1000∧(∀x ∈ ns,0≤x∧x < n)∧∀H',yg H H'→Q .non H'
def YW:Sp:=fun vs H Q _=>∃(n:Int) (l:Addr) (ps:y8),vs= [.int n, .ref l]∧yo H l ps∧InR n ps∧∀H',yg H H'→Q .non H'
section
variable{P:Program}{w:World}{K:yc3}{mg:Str→Option Value}{base:Heap}
variable{fAre fCheck fCheckL fEnds fReach fRow fWW:Addr}{gAre gCheck gCheckL gEnds gReach gRow gWW:FuncData}
theorem Wp{ns:List Int}{n:Int}(h:∀x ∈ ns,0≤x∧x < n):(ns.all fun x=>decide (0≤x) && decide (x < n))=true:=by
 rw [ye9]
 intro x hx
 obtain⟨h1,h2⟩:=h x hx
 rw [decide_eq_true h1,decide_eq_true h2]; rfl
theorem zK{n x:Int}{js:List Nat}{σ:St}{H:Hp}{N:List V→Hp→Prop}{zs:List V}(e1:(yJ js σ (some (.int x)))[1]? =some (some (.int n)))(h:N (zs ++ [V.bl (decide (0≤x) && decide (x < n))]) H) :
  MS (yJ js σ (some (.int x))) H fun b H2=>if b=true then(Wi (rI0 fun i j=> .bl (decide (i≤j))) (rI0 fun i j=> .bl (decide (i < j))) (tC (.int 0)) (Jc 0) (Jc 1)) (yJ js σ (some (.int x))) H2 fun y H3=>N (zs ++ [y]) H3 else N zs H2:=by
 refine VD (yT ?_)
 refine⟨_,rfl,0,x,rfl,rfl,_,rfl, ?_⟩
 by_cases c:0≤x
 ·rw [decide_eq_true c] at h ⊢
  exact yT ⟨_,e1,x,n,rfl,rfl,h⟩
 ·rw [decide_eq_false c] at h ⊢
  exact Y0 h
theorem ybp(d:DefAt K mg "are_places" YD YG fAre gAre)(z:Zs mg):FnOk P w K mg base CX0 1 fAre gAre YG (qg K):=by
 refine d.F.ok y00 (fun vs H Q E h=> ?_) (fun cdv A outer s H vs Q E hr h=> ?_)
 ·obtain⟨n,a,ns,rfl,_⟩:=h
  rfl
 obtain⟨n,a,ns,rfl,hS,hl,q⟩:=h
 refine⟨_,(yc (yy (yC (zP rfl) rfl z.all y30 (y0 (jd WB rfl (yax (pv 1)) (fun _ _ _ _=>Jp) (fun _ _ _ _=>(y6z y1z MM ye (pv 0) (pv 1)))) y3)))), ?_⟩
 have hlen:(ns.map V.int).length=ns.length:=yc2 _
 have fin:∀ys:List V,ys=(ns.take ns.length).map (fun x=>V.bl (decide (0≤x) && decide (x < n)))→∀p,H p=none→
   ∃(p':Addr) (bs:List Bool),([V.ref p]:List V)= [.ref p']∧SqL K (upd H p (.lst ys)) p' (bs.map V.bl)∧Q (.bl (bs.all id)) (upd H p (.lst ys)):=fun ys e p hp=>by
  refine⟨p,ns.map (fun x=>decide (0≤x) && decide (x < n)),rfl,SqL.of (by rw [y6,e,yd8,ydg]; rfl), ?_⟩
  have e2:(ns.map fun x=>decide (0≤x) && decide (x < n)).all id=ns.all fun x=>decide (0≤x) && decide (x < n):=by rw [yix]; rfl
  rw [e2]
  exact q _ (yb hp _)
 have len:∀i,((ns.take i).map (fun x=>V.bl (decide (0≤x) && decide (x < n)))).length≤i:=fun i=>by rw [yc2,yd4]; omega
 rcases hS with hS | hS
 ·refine⟨_,rfl,a,rfl, .inl ⟨⟨_,hS⟩,Jq (K:=K) (a:=a) (xs:=ns.map V.int) (fun i ys H'=>H'=H∧ys=(ns.take i).map fun x=>V.bl (decide (0≤x) && decide (x < n))) ⟨rfl,rfl⟩ (fun i ys H' hi ⟨e,e2⟩=> ?_) (by rw [hlen]; exact JB hl) (fun i x ys H' hx ⟨e,e2⟩=> ?_) (fun ys H' ⟨e,e2⟩ p hp=> ?_)⟩⟩
  ·subst e e2
   exact⟨hS,len i⟩
  ·subst e
   obtain⟨v,rfl,hv⟩:=Ml hx
   refine zK (n:=n) (N:=fun ys H''=>H''=H'∧ys=(ns.take (i + 1)).map fun x=>V.bl (decide (0≤x) && decide (x < n))) rfl ⟨rfl, ?_⟩
   rw [yE hv,yci,e2]; rfl
  ·subst e
   rw [hlen] at e2
   exact fin ys e2 p hp
 ·refine⟨_,rfl,a,rfl, .inr ⟨⟨_,hS⟩,ybu (K:=K) (a:=a) (xs:=ns.map V.int) (fun i ys H'=>H'=H∧ys=(ns.take i).map fun x=>V.bl (decide (0≤x) && decide (x < n))) ⟨rfl,rfl⟩ (fun i ys H' hi ⟨e,e2⟩=> ?_) (by rw [hlen]; exact JB hl) (fun i x ys H' hx ⟨e,e2⟩=> ?_) (fun ys H' ⟨e,e2⟩ p hp=> ?_)⟩⟩
  ·subst e e2
   exact⟨hS,len i⟩
  ·subst e
   obtain⟨v,rfl,hv⟩:=Ml hx
   refine zK (n:=n) (N:=fun ys H''=>H''=H'∧ys=(ns.take (i + 1)).map fun x=>V.bl (decide (0≤x) && decide (x < n))) rfl ⟨rfl, ?_⟩
   rw [yE hv,yci,e2]; rfl
  ·subst e
   rw [hlen] at e2
   exact fin ys e2 p hp
theorem y6t(d:DefAt K mg "check_places" yG yk fCheck gCheck)(yX:DefAt K mg "are_places" YD YG fAre gAre)(jf:FnOk P w K mg base CX0 1 fAre gAre YG (qg K)):FnOk P w K mg base CX0 2 fCheck gCheck yk (jS K):=by
 refine d.F.ok Z5 (fun vs H Q E h=> ?_) (fun cdv A outer s H vs Q E hr h=> ?_)
 ·obtain⟨n,a,ns,rfl,_⟩:=h
  rfl
 obtain⟨n,a,ns,rfl,hS,hl,hin,q⟩:=h
 refine⟨_,(yc (yP (Vw (Jv (yd jf (hr.mono (by decide)) rfl yX.m yX.F.kp yX.b .nil yr (y0 (pv 0) (y0 (pv 1) y3))))) (yc y60) yQ)), ?_⟩
 refine⟨_,rfl,_,rfl,n,a,ns,rfl,hS,hl,fun H' s'=>⟨_,rfl, ?_⟩⟩
 rw [Wp hin]
 exact Y0 (q _ s')
theorem y4d(d:DefAt K mg "check_lanes" yw yh fCheckL gCheckL)(y9:DefAt K mg "check_places" yG yk fCheck gCheck)(yp:FnOk P w K mg base CX0 2 fCheck gCheck yk (jS K)) :
  FnOk P w K mg base CX0 3 fCheckL gCheckL yh YW:=by
 refine d.F.ok VA (fun vs H Q E h=> ?_) (fun cdv A outer s H vs Q E hr h=> ?_)
 ·obtain⟨n,a,ns,rfl,_⟩:=h
  rfl
 obtain⟨n,l,ps,rfl,⟨as,hl,hp⟩,hin,q⟩:=h
 refine⟨_,(yc (JW PassesOwn.never rfl (Yx (pv 1)) (YR (i:=2) VA.nd rfl (Or.inl rfl)) (yc (yl (yd yp (hr.mono (by decide)) rfl y9.m y9.F.kp y9.b .nil yr (y0 (pv 0) (y0 (pv 2) y3))))))), ?_⟩
 refine⟨_,rfl,l,rfl,⟨_,SqL.of hl⟩,VN (K:=K) (a:=l) (xs:=as.map V.ref) (fun i σ H2=>∃v,σ= [some (.int n),some (.ref l),v]∧yg H H2) ⟨none,rfl,yg.refl _⟩ (fun i σ H2 _ ⟨_,_,s2⟩=>SqL.of (s2 _ _ hl)) ?_ ?_⟩
 ·rintro i y σ H2 hi ⟨v,rfl,s2⟩
  obtain⟨a,p,rfl,hpi,ha⟩:=jO hp hi
  have hr':=hin p (yce hpi)
  refine⟨_,rfl,_,rfl,n,a, [p.1,p.2],rfl, .inr (SqT.of (s2 _ _ ha)),(by show 2≤1000; decide),fun x hx=> ?_,fun H' s'=>⟨_,rfl,s2.trans s'⟩⟩
  rcases ycg.mp hx with e | hx
  ·rw [e]; exact hr'.1
  ·rw [ycb.mp hx]; exact hr'.2
 ·rintro σ H2 ⟨v,rfl,s2⟩
  exact q _ s2
end
def y5g:Sp:=fun vs H Q _=>∃(l:Addr) (ps:y8),vs= [.ref l]∧yo H l ps∧ps.length≤1000∧∀d H',yg H H'→qp H' d ps→Q (.ref d) H'
def Mt:Sp:=fun vs H Q _=>∃(l:Addr) (ps:y8) (n start:Int),vs= [.ref l, .int start]∧yo H l ps∧ps.length≤1000∧InR n ps∧(0≤start∧start < n)∧n≤500∧
 ∀d t H',yg H H'→H d=none→H' d=some (.dK (Yh t))→Reach ps start t→jJ ps t t.length→Q (.ref d) H'
def y2g:Sp:=fun vs H Q _=>∃(d:Addr) (t:yW) (ps:y8) (start place:Int),vs= [.ref d, .int place]∧H d=some (.dK (Yh t))∧t.length≤500∧Reach ps start t∧place ∈ keys t∧
 ∀r row H',yg H H'→H' r=some (.lst (row.map V.int))→row.length≤500→WalkOk ps row start place→Q (.ref r) H'
def Told(H:Hp)(p:Addr)(n:Int)(ps:y8)(one other:Int):Prop:=∃(w:Str) (r:Addr) (row:List Int),H p=some (.tup [.str w, .ref r])∧H r=some (.lst (row.map V.int))∧row.length≤500∧
 ((w="walk"∧WalkOk ps row one other)∨(w="wall"∧WallOk n ps row one other))
def Mn:Sp:=fun vs H Q _=>∃(l:Addr) (ps:y8) (n one other:Int),vs= [.ref l, .int one, .int other]∧yo H l ps∧ps.length≤1000∧InR n ps∧(0≤one∧one < n)∧n < 64∧∀p H',yg H H'→Told H' p n ps one other→Q (.ref p) H'
section
variable{P:Program}{w:World}{K:yc3}{mg:Str→Option Value}{base:Heap}
variable{fAre fCheck fCheckL fEnds fReach fRow fWW:Addr}{gAre gCheck gCheckL gEnds gReach gRow gWW:FuncData}
theorem yal(d:DefAt K mg "ends_by_place" J5 j3 fEnds gEnds):FnOk P w K mg base CX0 1 fEnds gEnds j3 y5g:=by
 refine d.F.ok Le (fun vs H Q E h=> ?_) (fun cdv A outer s H vs Q E hr h=> ?_)
 ·obtain⟨l,ps,rfl,_⟩:=h
  rfl
 obtain⟨l,ps,rfl,⟨as,hl,hp⟩,hlen,q⟩:=h
 refine⟨_,(y7 (yB (i:=1) Le.nd rfl (Or.inl rfl) y6r)
   (y7 (JW PassesOwn.never rfl (Yx (pv 0)) (YR (i:=2) Le.nd rfl (Or.inl rfl)) (yc (yl (Ll ydy ye3 ye4 jL (Ll yho ygw PySem.F.type_dict_setdefault xZ (pv 1) (y0 (yq Yy (pv 2) ye (fun _ _=>rfl)) (y0 (yZ y3) y3))) (y0 (yq Yy (pv 2) ye (fun _ _=>rfl)) y3)))))
   (yc (yy (pv 1))))), ?_⟩
 refine Vv ?_
 intro R2 R1
 intro dd hdd
 have hpl:=Paired.len hp
 refine⟨_,rfl,l,rfl,⟨_,SqL.of (yb hdd _ _ _ hl)⟩,VN (K:=K) (a:=l) (xs:=as.map V.ref) (fun i σ H2=>∃v tab,σ= [some (.ref l),some (.ref dd),v]∧yg H H2∧EndsTab H2 dd (ps.take i) tab∧(∀q ∈ tab,H q.2=none)∧tab.length≤i)
  ⟨none, [],rfl,yb hdd _,⟨y6,yfd,yfd,fun q hq=>(yhj hq).elim,fun p hp=>by simp at hp⟩,fun q hq=>(yhj hq).elim,yc6 _⟩ (fun i σ H2 _ ⟨_,_,_,s2,_⟩=>SqL.of (s2 _ _ hl)) ?_ ?_⟩
 ·rintro i y σ H2 hi ⟨v,tab,rfl,s2,T,fr,ht⟩
  obtain⟨a,p,rfl,hpi,ha⟩:=jO hp hi
  have hil:i < ps.length:=(yc5.mp hpi).1
  have ha2:=s2 _ _ ha
  have tk:=yE hpi
  have tk2:(ps.take i).length≤i:=by rw [yd4]; omega
  refine⟨_,rfl, .inr (.inr (.inl ⟨rfl, .inl ⟨_,T.dict⟩⟩)),_,rfl,a,_,0,_,rfl,rfl,SqT.of ha2,rfl,(by show 0≤sizeLine; decide),fun e he=> ?_⟩
  have se:yg H2 (upd H2 e (.lst [])):=yb he _
  have nde:dd ≠ e:=ym T.dict he
  refine⟨dd,JQ tab,Sum.inl p.1, .ref e,rfl,rfl,se _ _ T.dict,JM (by rw [y55]; omega),fun v hv=> ?_,fun hn=> ?_⟩
  ·obtain⟨q,hq,hk,rfl⟩:=ZH hv
   have hql:=T.ls q hq
   have hel:=y2p (ps.take i) q.1
   refine⟨.inl ⟨rfl,_,SqL.of (se _ _ hql)⟩,_,rfl,a,_,1,_,rfl,rfl,SqT.of (se _ _ ha2),rfl,q.2,_,_,rfl,rfl,se _ _ hql,JM (by rw [yc2]; omega), ?_⟩
   have nq:q.2 ≠ e:=ym hql he
   have ndq:dd ≠ q.2:=M5 T.dict hql (by intro z; cases z)
   refine⟨_,tab,rfl,YV (s2.trans se) (fr q hq) _,⟨?_,T.nd,T.na,fun q' hq'=> ?_,fun p' hp'=> ?_⟩,fr,by omega⟩
   ·rw [yi ndq,yi nde]; exact T.dict
   ·rw [tk,Me]
    by_cases c:q'.2=q.2
    ·have eq:q'=q:=by
      obtain⟨i1,h1⟩:=yd1.mp hq'
      obtain⟨i2,h2⟩:=yd1.mp hq
      have e1:(tab.map (·.2))[i1]? =some q.2:=by rw [yca,h1,←c]; rfl
      have e2:(tab.map (·.2))[i2]? =some q.2:=by rw [yca,h2]; rfl
      have:i1=i2:=by
       obtain⟨l1,f1⟩:=yc5.mp e1
       obtain⟨l2,f2⟩:=yc5.mp e2
       exact(yfz T.na).mp (f1.trans f2.symm)
      rw [this] at h1
      exact Option.some.inj (h1.symm.trans h2)
     rw [eq,y6,if_pos hk.symm,yci]; rfl
    ·have nk:¬p.1=q'.1:=fun z=>by
      have:q'=q:=by
       obtain⟨i1,h1⟩:=yd1.mp hq'
       obtain⟨i2,h2⟩:=yd1.mp hq
       have e1:(tab.map (·.1))[i1]? =some p.1:=by rw [yca,h1,z]; rfl
       have e2:(tab.map (·.1))[i2]? =some p.1:=by rw [yca,h2,←hk]; rfl
       have:i1=i2:=by
        obtain⟨l1,f1⟩:=yc5.mp e1
        obtain⟨l2,f2⟩:=yc5.mp e2
        exact(yfz T.nd).mp (f1.trans f2.symm)
       rw [this] at h1
       exact Option.some.inj (h1.symm.trans h2)
      exact c (by rw [this])
     rw [if_neg nk,yi c]
     exact se _ _ (T.ls q' hq')
   ·rw [tk] at hp'
    rcases ycw.mp hp' with h | h
    ·exact T.all p' h
    ·rw [ycb.mp h,←hk]
     exact ycf.mpr ⟨q,hq,rfl⟩
  ·have nk:=Zx hn
   have ee:Jw (ps.take i) p.1= []:=by
    rw [ygn]
    intro x hx
    exact nk (T.all (p.1,x) (Lw.mp hx))
   have hd2:(upd (upd H2 e (.lst [])) dd (.dK (J2 (JQ tab) (Sum.inl p.1) (.ref e)))) e=some (.lst []):=by rw [yi nde.symm,y6]
   have ha3:(upd (upd H2 e (.lst [])) dd (.dK (J2 (JQ tab) (Sum.inl p.1) (.ref e)))) a=some (.tup (pr p)):=by
    rw [yi (M5 ha2 T.dict (by intro z; cases z)),yi (ym ha2 he)]; exact ha2
   refine⟨.inl ⟨rfl,_,SqL.of hd2⟩,_,rfl,a,_,1,_,rfl,rfl,SqT.of ha3,rfl,e,_,_,rfl,rfl,hd2,(by decide), ?_⟩
   refine⟨_,tab ++ [(p.1,e)],rfl,YV (YV (s2.trans se) hdd _) (s2.free he) _,⟨?_, ?_, ?_,fun q' hq'=> ?_,fun p' hp'=> ?_⟩,fun q' hq'=> ?_,by rw [ycr,yd5]; omega⟩
   ·rw [yi nde,y6,ME _ hn]
    unfold JQ
    rw [yci]; rfl
   ·rw [yci]
    exact Lz T.nd nk
   ·rw [yci]
    refine Lz T.na fun m=> ?_
    obtain⟨q',h1,h2⟩:=ycf.mp m
    have:=T.ls q' h1
    rw [h2,he] at this
    cases this
   ·rcases ycw.mp hq' with h | h
    ·have nk':¬p.1=q'.1:=fun z=>nk (ycf.mpr ⟨q',h,z.symm⟩)
     have hq2:=T.ls q' h
     rw [tk,Me,if_neg nk',yi (ym hq2 he),yi (M5 hq2 T.dict (by intro z; cases z)),yi (ym hq2 he)]
     exact hq2
    ·rw [ycb.mp h,tk,Me,if_pos rfl,ee,y6]; rfl
   ·rw [tk] at hp'
    rw [yci]
    rcases ycw.mp hp' with h | h
    ·exact yde _ (T.all p' h)
    ·rw [ycb.mp h]
     exact ycx _ (by simp)
   ·rcases ycw.mp hq' with h | h
    ·exact fr q' h
    ·rw [ycb.mp h]
     exact s2.free he
 ·rintro σ H2 ⟨v,tab,rfl,s2,T,fr,ht⟩
  have e:ps.take (as.map V.ref).length=ps:=by rw [yc2,hpl,yd8]
  rw [e] at T
  exact⟨_,rfl,q dd H2 s2 ⟨tab,T⟩⟩
theorem y7w(d:DefAt K mg "reach" jI jn fReach gReach)(z:Zs mg)(j5:DefAt K mg "ends_by_place" J5 j3 fEnds gEnds)(Wg:FnOk P w K mg base CX0 1 fEnds gEnds j3 y5g) :
  FnOk P w K mg base CX0 2 fReach gReach jn Mt:=by
 refine d.F.ok Vt (fun vs H Q E h=> ?_) (fun cdv A outer s H vs Q E hr h=> ?_)
 ·obtain⟨l,ps,n,st,rfl,_⟩:=h
  rfl
 obtain⟨l,ps,n,st,rfl,hL,hlen,hin,hst,hn,q⟩:=h
 have hu:=Lp hr
 refine⟨_,(y7 (yB (i:=2) Vt.nd rfl (Or.inl rfl) (yd Wg (hr.mono (by decide)) rfl j5.m j5.F.kp j5.b .nil yr (y0 (pv 0) y3)))
   (y7 (yB (i:=3) Vt.nd rfl (Or.inl rfl) (y9x (y66 (pv 1) WS y8u) rfl rfl (by simp) (by decide)))
   (y7 (yB (i:=4) Vt.nd rfl (Or.inl rfl) (yZ (y0 (pv 1) y3)))
   (y7 (yB (i:=5) Vt.nd rfl (Or.inl rfl) ye)
   (y7 (Ql PassesOwn.never (yt MM (pv 5) (yC yO rfl z.len Yn (y0 (pv 4) y3)) (yx _)) (y7 (yB (i:=6) Vt.nd rfl (Or.inl rfl) (yq yS (pv 4) (pv 5) (fun _ _=>rfl)))
   (y7 (JW PassesOwn.never rfl (Yx (y6k hu (pv 2) (pv 6) (yZ y3) ⟨rfl,rfl,rfl,rfl⟩)) (YR (i:=7) Vt.nd rfl (Or.inl rfl)) (yc (yP (jW (Zb hu (pv 7) (pv 3))) (y7 (y8y hu (pv 3) (pv 7) (pv 6) rfl)
   (yc (yl (Ll ydy ye3 ye4 jL (pv 4) (y0 (pv 7) y3))))) yQ)))
   (yc (ybo (i:=5) Vt.nd rfl (Or.inl rfl) ye yay)))))
   (yc (yy (pv 3)))))))), ?_⟩
 refine y88 ?_
 intro R5 R4 R3 R2 R1
 refine⟨_,rfl,l,ps,rfl,hL,hlen,fun de H1 s1 hE=> ?_⟩
 intro a ha
 refine⟨_,rfl,y6, [(Sum.inl st, .non)],rfl,(by show 1≤15; decide), ?_⟩
 rw [show upd (upd H1 a (.dK [])) a (.dK (JV [] [(Sum.inl st, .non)]))=upd H1 a (.dK (Yh [(st,none)])) from yaj]
 have sa:yg H1 (upd H1 a (.dK (Yh [(st,none)]))):=yb ha _
 refine⟨_,rfl,(by show 1≤sizeLine; decide),fun f hf=> ?_⟩
 have hf1:H1 f=none:=sa.free hf
 have naf:a ≠ f:=fun e=>by rw [←e,y6] at hf; cases hf
 refine⟨fun m σ H2=>∃(t:yW) (at':Nat) (pl en:Option V),σ= [some (.ref l),some (.int st),some (.ref de),some (.ref a),some (.ref f),some (.int at'),pl,en]∧yg H1 H2∧H2 a=some (.dK (Yh t))∧H2 f=some (.lst ((keys t).map V.int))∧
   Reach ps st t∧jJ ps t at'∧at'≤t.length∧m=n.toNat - at',
  ⟨_, [(st,none)],0,none,none,rfl,YV sa hf1 _,by rw [yi naf,y6],by rw [y6]; rfl,y03 ps st,fun i k o e hi=>absurd hi (yee _),yd9 _,rfl⟩, ?_⟩
 rintro m σ H2 ⟨t,at',pl,en,rfl,s2,hA,hF,R,D,hat,rfl⟩
 have htl:=R.len_le hst hin
 have hkl:(keys t).length=t.length:=yc2 _
 refine⟨_,rfl,_,rfl,f,_,rfl, .inl (SqL.of hF),_,_,rfl,rfl,_,rfl, ?_⟩
 refine Lj (fun c=> ?_) (fun c=> ?_)
 ·have c':(at':Int) < (((keys t).map V.int).length:Nat):=of_decide_eq_true c
  rw [yc2,hkl] at c'
  have c2:at' < t.length:=by omega
  obtain⟨k,hk⟩:∃k,(keys t)[at']? =some k:=⟨_,yc4 (by rw [hkl]; exact c2)⟩
  have hkm:k ∈ keys t:=yce hk
  refine⟨fun σ' H'=>∃(t':yW) (pl en:Option V),σ'= [some (.ref l),some (.int st),some (.ref de),some (.ref a),some (.ref f),some (.int ((at':Int) + 1)),pl,en]∧yg H1 H'∧H' a=some (.dK (Yh t'))∧H' f=some (.lst ((keys t').map V.int))∧
   Reach ps st t'∧jJ ps t' (at' + 1)∧at' + 1≤t'.length,fun σ' H' ⟨t',pl,en,e,s',hA',hF',R',D',hl'⟩=>⟨n.toNat - (at' + 1),by omega,t',at' + 1,pl,en,e,s',hA',hF',R',D',hl',rfl⟩, ?_⟩
  refine⟨_,rfl,_,rfl,f,_,_,_,rfl,rfl,SqL.of hF,LN hk, ?_⟩
  obtain⟨tab,T⟩:=hE.mono s2
  refine⟨_,rfl,de,rfl, .inl ⟨_, .inl T.dict⟩,_,rfl,(by show 0≤sizeLine; decide),fun e he=>⟨_,JC.k (k:=Sum.inl k) (yb he _ _ _ T.dict), ?_⟩⟩
  have se:yg H2 (upd H2 e (.lst [])):=yb he _
  obtain⟨b,eb,hb⟩:∃b:Addr,(YM (JQ tab) (Sum.inl k:Key)).getD (.ref e)= .ref b∧((upd H2 e (.lst [])) b=some (.lst ((Jw ps k).map V.int))∧b ≠ a∧b ≠ f):=by
   cases hv:YM (JQ tab) (Sum.inl k:Key) with
   | none=>
    have nk:=Zx hv
    have ee:Jw ps k= []:=by
     rw [ygn]
     intro x hx
     exact nk (T.all (k,x) (Lw.mp hx))
    exact⟨e,rfl,by rw [y6,ee]; rfl,(ym hA he).symm,(ym hF he).symm⟩
   | some v=>
    obtain⟨q',hq',hk',rfl⟩:=ZH hv
    have h1:=T.ls q' hq'
    rw [hk'] at h1
    obtain⟨tab1,T1⟩:=hE
    have eqt:tab1=tab:=by
     have h2:=s2 _ _ T1.dict
     rw [T.dict] at h2
     have h3:JQ tab=JQ tab1:=HO.dK.inj (Option.some.inj h2)
     exact(xQ h3).symm
    rw [eqt] at T1
    have h4:=T1.ls q' hq'
    exact⟨q'.2,rfl,se _ _ h1,ym h4 ha,ym h4 hf1⟩
  rw [eb]
  refine⟨b,rfl,⟨_,SqL.of hb.1⟩,VN (K:=K) (a:=b) (xs:=(Jw ps k).map V.int) (fun i σ H3=>∃(t':yW) (en:Option V),σ= [some (.ref l),some (.int st),some (.ref de),some (.ref a),some (.ref f),some (.int at'),some (.int k),en]∧
    yg H1 H3∧H3 b=some (.lst ((Jw ps k).map V.int))∧H3 a=some (.dK (Yh t'))∧H3 f=some (.lst ((keys t').map V.int))∧Reach ps st t'∧jJ ps t' at'∧at' < t'.length∧(keys t')[at']? =some k∧∀x ∈ (Jw ps k).take i,x ∈ keys t')
   ⟨t,en,rfl,s2.trans se,hb.1,se _ _ hA,se _ _ hF,R,D,c2,hk,fun x hx=>by simp at hx⟩ (fun i σ H3 _ ⟨_,_,_,_,h,_⟩=>SqL.of h) ?_ ?_⟩
  ·rintro i y σ H3 hi ⟨t',en',rfl,s3,hB3,hA3,hF3,R3,D3,hl3,hk3,hall⟩
   obtain⟨x,rfl,hx⟩:=Ml hi
   have hlx:(k,x) ∈ ps:=Lw.mp (yce hx)
   have htl3:=R3.len_le hst hin
   have hkl3:(keys t').length=t'.length:=yc2 _
   refine⟨_,rfl,_,rfl,a,_,rfl,JC.k (k:=Sum.inl x) hA3,_,rfl, ?_⟩
   rw [JG]
   by_cases c3:x ∈ keys t'
   ·rw [decide_eq_true c3]
    refine Y0 ⟨t',_,rfl,s3,hB3,hA3,hF3,R3,D3,hl3,hk3,fun y' hy'=> ?_⟩
    rw [yE hx] at hy'
    rcases ycw.mp hy' with h | h
    ·exact hall y' h
    ·rw [ycb.mp h]; exact c3
   ·rw [decide_eq_false c3]
    refine yT ⟨_,rfl,_,rfl,_,rfl,a,_,rfl,zU.k (k:=Sum.inl x) hA3 (JM (by rw [QU]; omega)), ?_⟩
    rw [y64 c3]
    have hF4:(upd H3 a (.dK (Yh (t' ++ [(x,some k)])))) f=some (.lst ((keys t').map V.int)):=by rw [yi naf.symm]; exact hF3
    refine⟨_,rfl, .inl ⟨rfl,_,SqL.of hF4⟩,_,rfl,f,_,_,rfl,rfl,hF4,JM (by rw [yc2,hkl3]; omega), ?_⟩
    have ek:(keys t').map V.int ++ [.int x]=(keys (t' ++ [(x,some k)])).map V.int:=by rw [jZ,yci]; rfl
    refine⟨t' ++ [(x,some k)],_,rfl,YV (YV s3 ha _) hf1 _, ?_, ?_, ?_,R3.push c3 (yce hk3) hlx,D3.mono (yed hl3),by rw [ycr,yd5]; omega, ?_,fun y' hy'=> ?_⟩
    ·rw [yi hb.2.2,yi hb.2.1]; exact hB3
    ·rw [yi naf,y6]
    ·rw [y6,ek]
    ·rw [jZ,ycu (by rw [hkl3]; exact hl3)]; exact hk3
    ·rw [jZ]
     rw [yE hx] at hy'
     rcases ycw.mp hy' with h | h
     ·exact yde _ (hall y' h)
     ·rw [ycb.mp h]
      exact ycx _ (by simp [keys])
  ·rintro σ H3 ⟨t',en',rfl,s3,hB3,hA3,hF3,R3,D3,hl3,hk3,hall⟩
   refine⟨_,rfl,_,_,rfl,rfl, ?_⟩
   refine⟨t',_,_,rfl,s3,hA3,hF3,R3,D3.succ hk3 fun e' he'=>hall e' ?_,hl3⟩
   rw [yc2,yd8]
   exact Lw.mpr he'
 ·have c':¬(at':Int) < (((keys t).map V.int).length:Nat):=of_decide_eq_false (ydh.mpr c)
  rw [yc2,hkl] at c'
  have e:at'=t.length:=by omega
  subst e
  exact⟨_,rfl,q a t H2 (s1.trans s2) (s1.free ha) hA R D⟩
end
theorem Z2{bk:List Int}{c:Int}(h:bk.head? =some c):atI (bk.reverse.map V.int) (-1)=some (.int c):=by
 cases bk with
 | nil=>cases h
 | cons x r=>
  have e:x=c:=Option.some.inj h
  subst e
  rw [yeu,yci]
  exact y7j _ _
section
variable{P:Program}{w:World}{K:yc3}{mg:Str→Option Value}{base:Heap}
variable{fAre fCheck fCheckL fEnds fReach fRow fWW:Addr}{gAre gCheck gCheckL gEnds gReach gRow gWW:FuncData}
theorem yc0(d:DefAt K mg "row_to" jM jj fRow gRow)(z:Zs mg):FnOk P w K mg base CX0 1 fRow gRow jj y2g:=by
 refine d.F.ok Q1 (fun vs H Q E h=> ?_) (fun cdv A outer s H vs Q E hr h=> ?_)
 ·obtain⟨dd,t,ps,st,pl,rfl,_⟩:=h
  rfl
 obtain⟨dd,t,ps,st,pl,rfl,hd,htl,R,hm,q⟩:=h
 have hu:=Lp hr
 refine⟨_,(y7 (yB (i:=2) Q1.nd rfl (Or.inl rfl) (yZ (y0 (pv 1) y3)))
   (y7 (Ql PassesOwn.never (jW (y1a (y0z hu (pv 0) (yq yS (pv 2) (M8 L6 ye) (fun _ _=>rfl)) (fun _ _=>rfl)))) (yc (yl (Ll ydy ye3 ye4 jL (pv 2) (y0 (y0z hu (pv 0) (yq yS (pv 2) (M8 L6 ye) (fun _ _=>rfl)) (fun _ _=>rfl)) y3)))))
   (yc (yy (qd rfl rfl z.list rfl z.reversed (pv 2)))))), ?_⟩
 refine Vv ?_
 intro R2 R1
 refine⟨_,rfl,(by show 1≤sizeLine; decide),fun r hr'=> ?_⟩
 obtain⟨i0,o0,hi0⟩:=jK.mp hm
 refine⟨fun m σ H2=>∃bk:List Int,σ= [some (.ref dd),some (.int pl),some (.ref r)]∧yg H H2∧H2 r=some (.lst (bk.reverse.map V.int))∧Back ps t pl bk m,⟨i0, [pl],rfl,yb hr' _,by rw [y6]; rfl,y2l hi0⟩, ?_⟩
 rintro m σ H2 ⟨bk,rfl,s2,hR,B⟩
 have hd2:=s2 _ _ hd
 obtain⟨c,o,hc,hh⟩:=B.ix
 have hlk:=qO R.nd hc
 have hbl:bk.length≤t.length:=by
  have:=length_le_of_subset (m:=keys t) B.nd fun x hx=>by
   obtain⟨j,o',_,h⟩:=B.ge x hx
   exact jK.mpr ⟨j,o',h⟩
  rwa [show(keys t).length=t.length from yc2 _] at this
 have hg:JC H2 dd (.int c) (some (je o)):=by
  have:=JC.k (k:=Sum.inl c) hd2
  rw [Qq,hlk] at this
  exact this
 refine⟨_,rfl,_,rfl,1,rfl,r,_,_,_,rfl,rfl,SqL.of hR,Z2 hh,dd,_,rfl,hg,_,rfl, ?_⟩
 cases o with
 | none=>
  refine Y0 ?_
  have W:=B.walk R hh hlk
  refine⟨_,rfl,r,_,rfl,SqL.of hR,fun p hp=> ?_⟩
  refine q p bk _ (s2.trans (yb hp _)) ?_ (by omega) W
  rw [y6,←yhm,yik]
 | some p=>
  refine yT ?_
  obtain⟨j,hj,B'⟩:=B.more R hh hlk
  refine⟨fun σ' H'=>σ'= [some (.ref dd),some (.int pl),some (.ref r)]∧yg H H'∧H' r=some (.lst ((p :: bk).reverse.map V.int)),fun σ' H' ⟨e,s',h'⟩=>⟨j,hj,p :: bk,e,s',h',B'⟩, ?_⟩
  refine⟨_,rfl, .inl ⟨rfl,_,SqL.of hR⟩,_,rfl,_,rfl,1,rfl,r,_,_,_,rfl,rfl,SqL.of hR,Z2 hh,dd,_,rfl,hg,r,_,_,rfl,rfl,hR,JM (by rw [yc2,yg4]; omega), ?_⟩
  refine⟨rfl,YV s2 hr' _, ?_⟩
  rw [y6,yeu,yci]; rfl
end
section
variable{P:Program}{w:World}{K:yc3}{mg:Str→Option Value}{base:Heap}
variable{fAre fCheck fCheckL fEnds fReach fRow fWW:Addr}{gAre gCheck gCheckL gEnds gReach gRow gWW:FuncData}
theorem ok_ww(d:DefAt K mg "walk_or_wall" Yv Yg fWW gWW)(z:Zs mg)(Ym:DefAt K mg "reach" jI jn fReach gReach)(L3:FnOk P w K mg base CX0 2 fReach gReach jn Mt)
  (J8:DefAt K mg "row_to" jM jj fRow gRow) (Zz:FnOk P w K mg base CX0 1 fRow gRow jj y2g):FnOk P w K mg base CX0 3 fWW gWW Yg Mn:=by
 refine d.F.ok ZD (fun vs H Q E h=> ?_) (fun cdv A outer s H vs Q E hr h=> ?_)
 ·obtain⟨l,ps,n,one,other,rfl,_⟩:=h
  rfl
 obtain⟨l,ps,n,one,other,rfl,hL,hlen,hin,h1,hn,q⟩:=h
 have hu:=Lp hr
 refine⟨_,(y7 (yB (i:=3) ZD.nd rfl (Or.inl rfl) (yd L3 (hr.mono (by decide)) rfl Ym.m Ym.F.kp Ym.b .nil yr (y0 (pv 0) (y0 (pv 1) y3))))
   (y7 (yP (jW (Zt hu (pv 2) (pv 3))) (yc (yy (J4 (y0 YQ (y0 (yd Zz (hr.mono (by decide)) rfl J8.m J8.F.kp J8.b .nil yr (y0 (pv 3) (y0 (pv 2) y3))) y3))))) yQ)
   (yc (yy (J4 (y0 YQ (y0 (yC (LS rfl) rfl z.sorted Vu (y0 (pv 3) y3)) y3))))))), ?_⟩
 refine Vv ?_
 intro R2 R1
 refine⟨_,rfl,_,rfl,l,ps,n,one,rfl,hL,hlen,hin,h1,by omega,fun dd t H1 s1 _ hd R D=> ?_⟩
 have htl:=R.len_le h1 hin
 refine⟨_,rfl,_,rfl,dd,_,rfl,JC.k (k:=Sum.inl other) hd,_,rfl, ?_⟩
 rw [JG]
 by_cases c:other ∈ keys t
 ·rw [decide_eq_true c]
  refine yT ?_
  refine⟨_,rfl,_,rfl,dd,t,ps,one,other,rfl,hd,by omega,R,c,fun r row H2 s2 hr2 hrl W=> ?_⟩
  refine⟨(by show 2≤sizeLine; decide),fun p hp=> ?_⟩
  refine q p _ (s1.trans (s2.trans (yb hp _))) ⟨"walk",r,row,y6,yb hp _ _ _ hr2,hrl, .inl ⟨rfl,W⟩⟩
 ·rw [decide_eq_false c]
  refine Y0 ?_
  have hkl:(keys t).length=t.length:=yc2 _
  refine⟨_,rfl,dd,_,keys t,rfl,hd,VW t,by omega,fun row hp1 hp2 r hr2=> ?_⟩
  refine⟨(by show 2≤sizeLine; decide),fun p hp=> ?_⟩
  refine q p _ (s1.trans ((yb hr2 _).trans (yb hp _))) ⟨"wall",r,row,y6,yb hp _ _ _ y6, ?_, .inr ⟨rfl,y1d R D h1 hin hp1 hp2 c⟩⟩
  have:=hp1.length_eq
  omega
end
def y3j(K:yc3):Sp:=fun vs H Q _=>∃(a:Addr) (ns:List Int) (x y:V),vs= [.ref a,x,y]∧SqL K H a (ns.map V.int)∧ns.length≤63∧Q x H
def y0p:Sp:=fun vs H Q _=>∃i:Int,vs= [.int i]∧Q (.bl true) H
def spAt(K:yc3):Sp:=fun vs H Q _=>∃(a:Addr) (ns:List Int) (k:Nat),vs= [.ref a, .int (k:Int)]∧SqL K H a (ns.map V.int)∧Q (.int (ns.getD k 0)) H
def xK(K:yc3):Sp:=fun vs H Q _=>∃(a:Addr) (ns:List Int) (n seed:Int),vs= [.ref a, .int n, .int seed]∧SqL K H a (ns.map V.int)∧ns.length≤63∧0≤n∧n≤1000∧
 ∀l ps H',yg H H'→yo H' l ps→InR n ps→ps.length≤ns.length→Q (.ref l) H'
def y3a:Sp:=fun vs H Q _=>∃(l l2:Addr) (ps:y8),vs= [.ref l, .ref l2]∧yo H l ps∧yo H l2 ps∧ps.length≤1000∧Q (.bl true) H
section
variable{P:Program}{w:World}{K:yc3}{mg:Str→Option Value}{base:Heap}
variable{fUpto fWhole fAt fLanesBy fSame fWholeRow:Addr}{gUpto gWhole gAt gLanesBy gSame gWholeRow:FuncData}
theorem ya0(d:DefAt K mg "_law_upto" VZ Mr fUpto gUpto)(z:Zs mg):FnOk P w K mg base CX0 1 fUpto gUpto Mr (y3j K):=by
 refine d.F.ok yam (fun vs H Q E h=> ?_) (fun cdv A outer s H vs Q E hr h=> ?_)
 ·obtain⟨a,ns,x,y,rfl,_⟩:=h
  rfl
 obtain⟨a,ns,x,y,rfl,hS,hl,q⟩:=h
 refine⟨_,(y7 (yP (yt y8b (yC yO rfl z.len Yn (y0 (pv 0) y3)) ye (yx _)) (yc (yy (pv 2))) yQ)
   (yc (yy (pv 1)))), ?_⟩
 refine⟨_,rfl,a,_,rfl, .inl hS,_,_,rfl,rfl,_,rfl, ?_⟩
 have e:decide ((63:Int) < (((ns.map V.int).length:Nat):Int))=false:=decide_eq_false (by rw [yc2]; omega)
 rw [e]
 exact Y0 ⟨_,rfl,q⟩
theorem WY:yd7 K (.type "int") (.type "int")=some true:=by rfl
theorem zI:yd7 K (.type "int") (.type "bool")=some false:=by rfl
theorem xX:yd7 K (.type "list") (.type "list")=some true:=by rfl
theorem y02:yd7 K (.type "tuple") (.type "tuple")=some true:=by rfl
theorem y7i(d:DefAt K mg "_law_whole" Vc LC fWhole gWhole)(z:Zs mg):FnOk P w K mg base CX0 1 fWhole gWhole LC y0p:=by
 refine d.F.ok y7c (fun vs H Q E h=> ?_) (fun cdv A outer s H vs Q E hr h=> ?_)
 ·obtain⟨i,rfl,_⟩:=h
  rfl
 obtain⟨i,rfl,q⟩:=h
 refine⟨_,(yc (yy (yas (yC Mw rfl z.isinstance Yw (y0 (pv 0) (y0 (VJ (v:= .ty "int") rfl z.int Wj rfl) y3))) (zZ (ybe (yC Mw rfl z.isinstance Yw (y0 (pv 0) (y0 (VJ (v:= .ty "bool") rfl z.bool y90 rfl) y3)))))))), ?_⟩
 refine⟨_,rfl,_,_,_,_,rfl, .int i,WY,_,rfl, ?_⟩
 exact yT ⟨_,rfl,_,_,_,_,rfl, .int i,zI,_,rfl,q⟩
theorem ok_at(d:DefAt K mg "_law_at" ZB qv fAt gAt)(z:Zs mg):FnOk P w K mg base CX0 1 fAt gAt qv (spAt K):=by
 refine d.F.ok scLAt (fun vs H Q E h=> ?_) (fun cdv A outer s H vs Q E hr h=> ?_)
 ·obtain⟨a,ns,k,rfl,_⟩:=h
  rfl
 obtain⟨a,ns,k,rfl,hS,q⟩:=h
 refine⟨_,(y7 (yP (yt MM (pv 1) (yC yO rfl z.len Yn (y0 (pv 0) y3)) (yx _)) (yc (yy (yq yS (pv 0) (pv 1) (fun _ _=>rfl)))) yQ)
   (yc (yy ye))), ?_⟩
 refine⟨_,rfl,_,rfl,a,_,rfl, .inl hS,_,_,rfl,rfl,_,rfl, ?_⟩
 refine Lj (fun c=> ?_) (fun c=> ?_)
 ·have c':(k:Int) < (((ns.map V.int).length:Nat):Int):=of_decide_eq_true c
  rw [yc2] at c'
  have e:ns[k]? =some (ns.getD k 0):=by
   have hk:k < ns.length:=by omega
   rw [ycc,yc4 hk]; rfl
  exact⟨_,rfl,_,rfl,a,_,_,_,rfl,rfl,hS,LN e,q⟩
 ·have c':¬(k:Int) < (((ns.map V.int).length:Nat):Int):=of_decide_eq_false (ydh.mpr c)
  rw [yc2] at c'
  have e:ns.getD k 0=0:=by rw [ycc,yd6 (by omega)]; rfl
  rw [e] at q
  exact q
theorem Wm{α:Type}{x y:α}{i:Int}(h:i=0∨i=1):atI [x,y] i=some (if i=0 then x else y):=by
 rcases h with e | e
 ·subst e; rfl
 ·subst e; rfl
theorem y7y{α:Type}{x y z:α}{i:Int}(h:i=0∨i=1∨i=2):atI [x,y,z] i=some (if i=0 then x else if i=1 then y else z):=by
 rcases h with e | e | e
 ·subst e; rfl
 ·subst e; rfl
 ·subst e; rfl
theorem xk{H H2:Hp}{l:Addr}{as:List Addr}{ps:y8}{x y:Int}{p:Addr}(s2:yg H H2)(hl:H2 l=some (.lst (as.map V.ref)))(hp:Paired (fun a p=>H2 a=some (.tup (pr p))) as ps)(hfl:H l=none)(hn:H2 p=none) :
  yg H (upd (upd H2 p (.tup [.int x, .int y])) l (.lst (as.map V.ref ++ [.ref p])))∧
  (upd (upd H2 p (.tup [.int x, .int y])) l (.lst (as.map V.ref ++ [.ref p]))) l=some (.lst ((as ++ [p]).map V.ref))∧
  Paired (fun a q=>(upd (upd H2 p (.tup [.int x, .int y])) l (.lst (as.map V.ref ++ [.ref p]))) a=some (.tup (pr q))) (as ++ [p]) (ps ++ [(x,y)]):=by
 have nlp:l ≠ p:=ym hl hn
 refine⟨YV (s2.trans (yb hn _)) hfl _,by rw [y6,yci]; rfl,Paired.snoc (Paired.mapP hp fun a q e=> ?_) ?_⟩
 ·rw [yi (M5 e hl (by intro z; cases z)),yi (ym e hn)]; exact e
 ·rw [yi nlp.symm,y6]; rfl
theorem y2j(d:DefAt K mg "_law_lanes_by" j8 Vm fLanesBy gLanesBy)(z:Zs mg):FnOk P w K mg base CX0 1 fLanesBy gLanesBy Vm (xK K):=by
 refine d.F.ok JH (fun vs H Q E h=> ?_) (fun cdv A outer s H vs Q E hr h=> ?_)
 ·obtain⟨a,ns,n,seed,rfl,_⟩:=h
  rfl
 obtain⟨a,ns,n,seed,rfl,hS,hl,h0,h1000,q⟩:=h
 refine⟨_,(y7 (yB (i:=3) JH.nd rfl (Or.inl rfl) (yZ y3))
   (y7 (yB (i:=4) JH.nd rfl (Or.inl rfl) (yq yS (yZ (y0 (yN LR ye (yN Ys (pv 2) ye)) (y0 (yC (y4t rfl) rfl z.max y43 (y0 ye (y0 (yN WQ (pv 1) ye) y3))) y3))) (yN Ys (yN Vr (pv 2) ye) ye) (fun _ _=>rfl)))
   (y7 (yP (yt Y1 (pv 1) ye (yx _)) (yc (yy (pv 3))) yQ)
   (y7 (JW PassesOwn.never rfl (Jk rfl z.range (y0 (yC yO rfl z.len Yn (y0 (pv 0) y3)) y3)) (YR (i:=5) JH.nd rfl (Or.inl rfl)) (y7 (yB (i:=6) JH.nd rfl (Or.inl rfl) (yN Ys (yN LR (yq yS (pv 0) (pv 5) (fun _ _=>rfl)) (pv 5)) (pv 1)))
   (y7 (yB (i:=7) JH.nd rfl (Or.inl rfl) (yN LR (yN LR (pv 6) ye) (yN Ys (yN Vr (yq yS (pv 0) (pv 5) (fun _ _=>rfl)) ye) (pv 4))))
   (y7 (yP (yt op_ge (pv 7) (pv 1) (yx _)) (yc (yB (i:=7) JH.nd rfl (Or.inl rfl) (yq yS (yZ (y0 (yN Ys (pv 7) (pv 1)) (y0 (pv 6) (y0 (pv 6) y3)))) (yN yb8 (yN Ys (yN Vr (pv 2) ye) ye) (Jj xm rfl z.int Wj (y0 (jv MM (pv 4) ye (yx _)) y3))) (fun _ _=>rfl)))) yQ)
   (y7 (yP (yt Y1 (yN Ys (yq yS (pv 0) (pv 5) (fun _ _=>rfl)) ye) ye (yx _)) (yc (yB (i:=7) JH.nd rfl (Or.inl rfl) (pv 6))) yQ)
   (yc (yP (yt Y1 (yN Ys (yN Vr (yq yS (pv 0) (pv 5) (fun _ _=>rfl)) ye) ye) ye (yx _)) (yc (yl (Ll ydy ye3 ye4 jL (pv 3) (y0 (J4 (y0 (pv 7) (y0 (pv 6) y3))) y3)))) (yc (yl (Ll ydy ye3 ye4 jL (pv 3) (y0 (J4 (y0 (pv 6) (y0 (pv 7) y3))) y3)))))))))))
   (yc (yy (pv 3))))))), ?_⟩
 refine zm ?_
 intro R4 R3 R2 R1
 refine⟨(by show 0≤sizeLine; decide),fun l hfl=> ?_⟩
 have sl:yg H (upd H l (.lst [])):=yb hfl _
 refine⟨_,rfl,_,_,rfl,rfl,(by show(0:Int) < 4; decide),_,_,rfl,rfl,_,rfl,_,_,rfl,rfl,_,_,rfl,(by show 2≤sizeLine; decide),fun p hp=> ?_⟩
 refine⟨_,rfl,_,_,rfl,rfl,⟨by decide,by decide⟩,_,_,rfl,rfl,(by show(0:Int) < 2; decide),p,_,_,_,rfl,rfl,SqL.of y6,Wm (by omega), ?_⟩
 have spp:yg H (upd (upd H l (.lst [])) p (.lst [.int (1 + seed % 4), .int (if n - 1 > 5 then n - 1 else 5)])):=sl.trans (yb hp _)
 have hlp:(upd (upd H l (.lst [])) p (.lst [.int (1 + seed % 4), .int (if n - 1 > 5 then n - 1 else 5)])) l=some (.lst (([]:List Addr).map V.ref)):=by
  rw [yi (ym y6 hp),y6]; rfl
 obtain⟨hop,ehop,hop1⟩:∃hop:Int,(if seed / 12 % 2=0 then V.int (1 + seed % 4) else V.int (if n - 1 > 5 then n - 1 else 5))= .int hop∧1≤hop:=by
  by_cases c:seed / 12 % 2=0
  ·rw [if_pos c]; exact⟨_,rfl,by omega⟩
  ·rw [if_neg c]; exact⟨_,rfl,by split <;> omega⟩
 rw [ehop]
 generalize (upd (upd H l (.lst [])) p (.lst [.int (1 + seed % 4), .int (if n - 1 > 5 then n - 1 else 5)]))=Hp0 at spp hlp ⊢
 refine⟨_,rfl,(by rfl),_,rfl, ?_⟩
 refine Lj (fun c=> ?_) (fun c=> ?_)
 ·exact⟨_,rfl,q l [] _ spp ⟨[],hlp, .nil⟩ (fun p hp=>by simp at hp) (by simp)⟩
 have hn:0 < n:=by
  have c':¬V.int n=V.int 0:=of_decide_eq_false (ydh.mpr c)
  have:n ≠ 0:=fun e=>c' (by rw [e])
  omega
 have hS2:∀{H2:Hp},yg H H2→SqL K H2 a (ns.map V.int):=fun s=>s.seq hS
 have hlen:(ns.map V.int).length=ns.length:=yc2 _
 refine⟨_,rfl,a,_,rfl, .inl (hS2 spp),_,rfl,(by omega),(by rw [hlen]; omega),Zm (n:=((((ns.map V.int).length:Nat):Int)).toNat) (fun i σ H2=>∃(v1 v2 v3:Option V) (as:List Addr) (ps:y8),
   σ= [some (.ref a),some (.int n),some (.int seed),some (.ref l),some (.int hop),v1,v2,v3]∧yg H H2∧H2 l=some (.lst (as.map V.ref))∧Paired (fun a p=>H2 a=some (.tup (pr p))) as ps∧InR n ps∧ps.length=i)
  ⟨none,none,none, [], [],rfl,spp,hlp, .nil,fun p hp=>by simp at hp,rfl⟩ ?_ ?_⟩
 ·rintro i σ H2 hi ⟨v1,v2,v3,as,ps,rfl,s2,hl2,hp2,hin,hil⟩
  have hi':i < ns.length:=by
   rw [hlen] at hi
   omega
  obtain⟨x,hx⟩:∃x,ns[i]? =some x:=⟨_,yc4 hi'⟩
  have e0:(0:Int) + (i:Int)=(i:Int):=yf2 _
  rw [e0]
  have hX:atI (ns.map V.int) (i:Int)=some (.int x):=LN hx
  have hal:=Paired.len hp2
  refine⟨_,rfl,_,rfl,a,_,_,_,rfl,rfl,hS2 s2,hX,_,rfl,_,_,rfl,rfl,_,rfl,_,_,rfl,rfl,hn, ?_⟩
  have o1:0≤(x + (i:Int)) % n:=yeg _ (by omega)
  have o2:(x + (i:Int)) % n < n:=ye8 _ hn
  refine⟨_,rfl,_,_,rfl,rfl,_,rfl,_,rfl,a,_,_,_,rfl,rfl,hS2 s2,hX,_,_,rfl,rfl,⟨by decide,by decide⟩,_,rfl,_,_,rfl,rfl,(by show 0 < hop; omega),_,_,rfl,rfl, ?_⟩
  have t1:0≤x / 7 % hop:=yeg _ (by omega)
  have t2:0≤(x + (i:Int)) % n + 1 + x / 7 % hop:=by omega
  refine⟨_,rfl,_,rfl,_,_,rfl,rfl,_,rfl, ?_⟩
  refine Mm (fun v H3=>∃o:Int,v= .int o∧0≤o∧o < n∧yg H H3∧H3 l=some (.lst (as.map V.ref))∧Paired (fun a p=>H3 a=some (.tup (pr p))) as ps) (fun key c=> ?_) (fun c=>⟨_,rfl,_,rfl,t2, ?_,s2,hl2,hp2⟩) (fun v H3 ⟨o,ev,g1,g2,s3,hl3,hp3⟩=> ?_)
  ·have m1:0≤((x + (i:Int)) % n + 1 + x / 7 % hop) % n:=yeg _ (by omega)
   have m2:((x + (i:Int)) % n + 1 + x / 7 % hop) % n < n:=ye8 _ hn
   have r1:0≤seed / 4 % 3:=yeg _ (by decide)
   have r2:seed / 4 % 3 < 3:=ye8 _ (by decide)
   refine⟨_,rfl,_,rfl,_,_,rfl,rfl,hn,_,rfl,_,rfl,(by show 3≤sizeLine; decide),fun e he=> ?_⟩
   refine⟨_,rfl,_,_,rfl,rfl,⟨by decide,by decide⟩,_,_,rfl,rfl,(by show(0:Int) < 3; decide),_,rfl,_,_,rfl,rfl, .inr ⟨_,rfl, ?_⟩⟩
   refine⟨_,_,rfl,rfl, .inl ⟨by omega,by omega⟩,e,_,_,_,rfl,rfl,SqL.of y6,y7y (by split <;> omega), ?_⟩
   refine key _ _ ?_
   have se:=s2.trans (yb he (.lst [.int (((x + (i:Int)) % n + 1 + x / 7 % hop) % n), .int ((x + (i:Int)) % n), .int ((x + (i:Int)) % n)]))
   have hle:=yb he (.lst [.int (((x + (i:Int)) % n + 1 + x / 7 % hop) % n), .int ((x + (i:Int)) % n), .int ((x + (i:Int)) % n)]) _ _ hl2
   have hpe:=Paired.mapP hp2 fun a q e=>yb he (.lst [.int (((x + (i:Int)) % n + 1 + x / 7 % hop) % n), .int ((x + (i:Int)) % n), .int ((x + (i:Int)) % n)]) _ _ e
   generalize (seed / 4 % 3 * if decide (hop < 5)=true then(1:Int) else 0)=ix
   by_cases c0:ix=0
   ·rw [if_pos c0]; exact⟨_,rfl,m1,m2,se,hle,hpe⟩
   ·rw [if_neg c0]
    have z3:(if ix=1 then V.int ((x + (i:Int)) % n) else V.int ((x + (i:Int)) % n))=V.int ((x + (i:Int)) % n):=by split <;> rfl
    exact⟨_,z3,o1,o2,se,hle,hpe⟩
  ·have c':¬n≤(x + (i:Int)) % n + 1 + x / 7 % hop:=of_decide_eq_false (ydh.mpr c)
   omega
  subst ev
  refine⟨_,rfl,_,rfl,a,_,_,_,rfl,rfl,hS2 s3,hX,_,_,rfl,rfl,(by show(0:Int) < 17; decide),rfl,_,rfl, ?_⟩
  refine Mm (fun v H3=>∃o:Int,v= .int o∧0≤o∧o < n∧yg H H3∧H3 l=some (.lst (as.map V.ref))∧Paired (fun a p=>H3 a=some (.tup (pr p))) as ps) (fun key c=> ?_) (fun c=>⟨_,rfl,_,rfl,g1,g2,s3,hl3,hp3⟩) (fun v H4 ⟨o',ev,g1',g2',s4,hl4,hp4⟩=> ?_)
  ·exact⟨_,rfl,key _ _ ⟨_,rfl,o1,o2,s3,hl3,hp3⟩⟩
  subst ev
  refine⟨_,rfl,_,rfl,a,_,_,_,rfl,rfl,hS2 s4,hX,_,_,rfl,rfl,⟨by decide,by decide⟩,_,_,rfl,rfl,(by show(0:Int) < 6; decide),rfl,_,rfl, ?_⟩
  have hz4:(as.map V.ref).length < sizeLine:=JM (by rw [yc2]; omega)
  refine Lj (fun c=> ?_) (fun c=> ?_)
  ·refine⟨_,rfl, .inl ⟨rfl,_,SqL.of hl4⟩,_,rfl,_,rfl,(by show 2≤sizeLine; decide),fun p hp=> ?_⟩
   refine⟨l,_,_,rfl,rfl,yb hp _ _ _ hl4,hz4, ?_⟩
   obtain⟨k1,k2,k3⟩:=xk (x:=o') (y:=(x + (i:Int)) % n) s4 hl4 hp4 hfl hp
   refine⟨_,_,_,as ++ [p],ps ++ [(o',(x + (i:Int)) % n)],rfl,k1,k2,k3,fun q hq=> ?_,by rw [ycr,yd5,hil]⟩
   rcases ycw.mp hq with h | h
   ·exact hin q h
   ·rw [ycb.mp h]; exact⟨⟨g1',g2'⟩,o1,o2⟩
  ·refine⟨_,rfl, .inl ⟨rfl,_,SqL.of hl4⟩,_,rfl,_,rfl,(by show 2≤sizeLine; decide),fun p hp=> ?_⟩
   refine⟨l,_,_,rfl,rfl,yb hp _ _ _ hl4,hz4, ?_⟩
   obtain⟨k1,k2,k3⟩:=xk (x:=(x + (i:Int)) % n) (y:=o') s4 hl4 hp4 hfl hp
   refine⟨_,_,_,as ++ [p],ps ++ [((x + (i:Int)) % n,o')],rfl,k1,k2,k3,fun q hq=> ?_,by rw [ycr,yd5,hil]⟩
   rcases ycw.mp hq with h | h
   ·exact hin q h
   ·rw [ycb.mp h]; exact⟨⟨o1,o2⟩,g1',g2'⟩
 ·rintro σ H2 ⟨v1,v2,v3,as,ps,rfl,s2,hl2,hp2,hin,hil⟩
  exact⟨_,rfl,q l ps H2 s2 ⟨as,hl2,hp2⟩ hin (by rw [hlen] at hil; omega)⟩
theorem y8t(d:DefAt K mg "_law_same_lanes" Jl jo fSame gSame)(z:Zs mg)(jQ:DefAt K mg "_law_whole" Vc LC fWhole gWhole)(y0s:FnOk P w K mg base CX0 1 fWhole gWhole LC y0p) :
  FnOk P w K mg base CX0 2 fSame gSame jo y3a:=by
 refine d.F.ok Zh (fun vs H Q E h=> ?_) (fun cdv A outer s H vs Q E hr h=> ?_)
 ·obtain⟨l,l2,ps,rfl,_⟩:=h
  rfl
 obtain⟨l,l2,ps,rfl,⟨as,h1,p1⟩,⟨as2,h2,p2⟩,hlen,q⟩:=h
 have hu:=Lp hr
 have hu0:=Nat.lt_of_succ_lt hu
 refine⟨_,(y7 (yP (PW.pt (ZZ (Vw (Jv (yC Mw rfl z.isinstance Yw (y0 (pv 0) (y0 (VJ (v:= .ty "list") rfl z.list y1e rfl) y3))))) (Zn (yt M0 (yC yO rfl z.len Yn (y0 (pv 0) y3)) (yC yO rfl z.len Yn (y0 (pv 1) y3)) (yx _))))) (yc (yy jy)) yQ)
   (y7 (JW PassesOwn.never rfl (Jk rfl z.range (y0 (yC yO rfl z.len Yn (y0 (pv 1) y3)) y3)) (YR (i:=2) Zh.nd rfl (Or.inl rfl)) (y7 (yP (PW.pt (ZZ (Vw (Jv (yC Mw rfl z.isinstance Yw (y0 (yq yS (pv 0) (pv 2) (fun _ _=>rfl)) (y0 (VJ (v:= .ty "tuple") rfl z.tuple y7t rfl) y3))))) (Zn (yt M0 (yC yO rfl z.len Yn (y0 (yq yS (pv 0) (pv 2) (fun _ _=>rfl)) y3)) ye (yx _))))) (yc (yy jy)) yQ)
   (y7 (yP (PW.pt (ZZ (Vw (Jv (yd y0s (hr.mono (by decide)) rfl jQ.m jQ.F.kp jQ.b .nil yr (y0 (yq Yy (yq yS (pv 0) (pv 2) (fun _ _=>rfl)) ye (fun _ _=>rfl)) y3)))) (Zn (Vw (Jv (yd y0s (hr.mono (by decide)) rfl jQ.m jQ.F.kp jQ.b .nil yr (y0 (yq Yy (yq yS (pv 0) (pv 2) (fun _ _=>rfl)) ye (fun _ _=>rfl)) y3))))))) (yc (yy jy)) yQ)
   (yc (yP (yt (yap hu0) (yq yS (pv 0) (pv 2) (fun _ _=>rfl)) (yq yS (pv 1) (pv 2) (fun _ _=>rfl)) (yx _)) (yc (yy jy)) yQ)))))
   (yc (yy jy)))), ?_⟩
 refine Vv ?_
 intro R2 R1
 have e1:=Paired.len p1
 have e2:=Paired.len p2
 have m1:(as.map V.ref).length=ps.length:=by rw [yc2]; exact e1
 have m2:(as2.map V.ref).length=ps.length:=by rw [yc2]; exact e2
 refine⟨_,rfl,_,_,_,_,rfl, .lst h1,xX,_,rfl, ?_⟩
 refine Y0 ⟨_,rfl,l,_,rfl, .inl (SqL.of h1),_,rfl,l2,_,rfl, .inl (SqL.of h2),rfl,_,rfl, ?_⟩
 rw [m1,m2]
 refine zx rfl ?_
 refine⟨_,rfl,l2,_,rfl, .inl (SqL.of h2),_,rfl,(by omega),(by rw [m2]; omega),Zm (n:=((((as2.map V.ref).length:Nat):Int)).toNat) (fun i σ H2=>∃v,σ= [some (.ref l),some (.ref l2),v]∧H2=H) ⟨none,rfl,rfl⟩ ?_ ?_⟩
 ·rintro i σ H2 hi ⟨v,rfl,rfl⟩
  have hi':i < ps.length:=by rw [m2] at hi; omega
  obtain⟨p,hp⟩:∃p,ps[i]? =some p:=⟨_,yc4 hi'⟩
  obtain⟨a,ha,hA⟩:=Vz p1 hp
  obtain⟨b,hb,hB⟩:=Vz p2 hp
  have e0:(0:Int) + (i:Int)=(i:Int):=yf2 _
  rw [e0]
  have xa:atI (as.map V.ref) (i:Int)=some (.ref a):=JF (by rw [yca,ha]; rfl)
  have xb:atI (as2.map V.ref) (i:Int)=some (.ref b):=JF (by rw [yca,hb]; rfl)
  refine⟨_,rfl,_,rfl,l,_,_,_,rfl,rfl,SqL.of h1,xa,_,_,_,_,rfl, .tup hA,y02,_,rfl, ?_⟩
  refine Y0 ⟨_,rfl,_,rfl,l,_,_,_,rfl,rfl,SqL.of h1,xa,a,_,rfl, .inr (SqT.of hA),rfl,_,rfl, ?_⟩
  refine zx rfl ?_
  refine⟨_,rfl,_,rfl,l,_,_,_,rfl,rfl,SqL.of h1,xa,a,_,_,_,rfl,rfl,SqT.of hA,rfl,p.1,rfl,_,rfl, ?_⟩
  refine Y0 ⟨_,rfl,_,rfl,l,_,_,_,rfl,rfl,SqL.of h1,xa,a,_,_,_,rfl,rfl,SqT.of hA,rfl,p.2,rfl,_,rfl, ?_⟩
  refine Y0 ?_
  refine⟨_,rfl,_,rfl,l,_,_,_,rfl,rfl,SqL.of h1,xa,_,rfl,_,rfl,l2,_,_,_,rfl,rfl,SqL.of h2,xb,a,b, [p.1,p.2], [p.1,p.2],rfl,rfl,SqT.of hA,SqT.of hB,rfl,_,rfl, ?_⟩
  refine zx rfl ?_
  exact⟨_,rfl,rfl⟩
 ·rintro σ H2 ⟨v,rfl,rfl⟩
  exact q
end
theorem y1b{ns:List Int}{x:Int}:inV (.int x) (ns.map V.int)=decide (x ∈ ns):=by
 unfold inV
 rw [yf3,decide_eq_true_iff,List.any_eq_true]
 constructor
 ·rintro⟨v,hv,e⟩
  obtain⟨y,hy,rfl⟩:=ycf.mp hv
  have:y=x:=by simpa [eqV] using e
  rw [←this]; exact hy
 ·intro h
  exact⟨.int x,ycf.mpr ⟨x,h,rfl⟩,by simp [eqV]⟩
theorem xj(ns:List Int):(ns.map V.int).all Ln=true:=by
 rw [ye9]
 intro v hv
 obtain⟨y,_,rfl⟩:=ycf.mp hv
 rfl
section
variable{P:Program}{w:World}{K:yc3}{mg:Str→Option Value}{base:Heap}
variable{fWhole fWholeRow fLWalks fLBars fLTold:Addr}{gWhole gWholeRow gLWalks gLBars gLTold:FuncData}
end
theorem y3k{H:Hp}{l l2:Addr}{as:List Addr}{ps:y8}(hl:H l=some (.lst (as.map V.ref)))(hp:Paired (fun a p=>H a=some (.tup (pr p))) as ps)(h2:H l2=none):yo (upd H l2 (.lst (as.map V.ref))) l2 ps:=
 ⟨as,y6,Paired.mapP hp fun _ _ e=>yb h2 _ _ _ e⟩
theorem y2t{ns:List Int}(h:ns.length≤63):V7 (ns.map V.int) none (some 1000)=ns.map V.int:=by
 unfold V7
 have e1:HT.sIx (ns.map V.int).length 0 none=0:=rfl
 have e2:HT.sIx (ns.map V.int).length (ns.map V.int).length (some 1000)=ns.length:=(HT.sIx_nat _ _ 1000).trans (by rw [yc2]; omega)
 rw [e1,e2,List.drop_zero,yiw]
 exact yen (by rw [yc2]; exact yc6 _)
theorem y3q(xs:List V){k:Nat}(h:k≤xs.length):V7 xs none (some (k:Int))=xs.take k:=by
 unfold V7
 have e1:HT.sIx xs.length 0 none=0:=rfl
 have e2:HT.sIx xs.length xs.length (some (k:Int))=k:=(HT.sIx_nat _ _ k).trans (yi6 h)
 rw [e1,e2,List.drop_zero,yiw]
theorem y5c(xs:List V)(k:Nat):V7 xs (some (k:Int)) none=xs.drop k:=by
 unfold V7
 have e1:HT.sIx xs.length 0 (some (k:Int))=min k xs.length:=HT.sIx_nat _ _ k
 have e2:HT.sIx xs.length xs.length none=xs.length:=rfl
 rw [e1,e2]
 rcases yiv k xs.length with c | c
 ·rw [yi6 c]
  exact yen (by rw [ydt]; exact yc6 _)
 ·rw [Nat.min_eq_right c,yex c,yex (yc6 _),List.take_nil]
def Zi:Sp:=fun vs H Q _=>∃(l:Addr) (ps:y8),vs= [.ref l]∧yo H l ps∧ps.length≤400∧∀l2 H',yg H H'→H l2=none→yo H' l2 (bw ps)→Q (.ref l2) H'
theorem y39{H H':Hp}{a:Addr}(s:yg H H')(h:H' a=none):H a=none:=by
 cases e:H a with
 | none=>rfl
 | some u=>rw [s _ _ e] at h; cases h
theorem QR(ps:y8):(bw ps).length=ps.length + ps.length:=by unfold bw; rw [ycr,yc2]
theorem MU{n:Int}{ps:y8}(h:InR n ps):InR n (bw ps):=fun p hp=>by
 rcases ycw.mp hp with e | e
 ·exact h p e
 ·obtain⟨q,hq,rfl⟩:=ycf.mp e
  exact⟨(h q hq).2,(h q hq).1⟩
section
variable{P:Program}{w:World}{K:yc3}{mg:Str→Option Value}{base:Heap}
theorem L8{α β:Type}{F:α→β→Prop}:∀{as bs:List α} {ps qs:List β},Paired F as ps→Paired F bs qs→Paired F (as ++ bs) (ps ++ qs)
 | _,_,_,_, .nil,t=>t
 | _,_,_,_, .cons e s,t=> .cons e (L8 s t)
theorem y45{H2:Hp}{js:List Nat}{σ:St}{N:List V→Hp→Prop}{K:yc3}{zs:List V}{a:Addr}{p:Int × Int}(ha:H2 a=some (.tup (pr p)))(h:∀b,H2 b=none→N (zs ++ [V.ref b]) (upd H2 b (.tup (pr (swap p))))) :
  MS (yJ js σ (some (.ref a))) H2 fun b H3=>if b=true then(tTup (ML (tOp (Qm K) (Jc 0) (tC (.int 1))) (ML (tOp (Qm K) (Jc 0) (tC (.int 0))) tNil))) (yJ js σ (some (.ref a))) H3 fun y H4=>N (zs ++ [y]) H4 else N zs H3:=
 VD (yT ⟨_,rfl,a,_,_,_,rfl,rfl,SqT.of ha,rfl,_,rfl,a,_,_,_,rfl,rfl,SqT.of ha,rfl,(by show 2≤sizeLine; decide),fun b hb=>h b hb⟩)
theorem yae{f:Addr}{g:FuncData}(d:DefAt K mg "both_ways" YT YS f g):FnOk P w K mg base CX0 1 f g YS Zi:=by
 refine d.F.ok y1r (fun vs H Q E h=> ?_) (fun cdv A outer s H vs Q E hr h=> ?_)
 ·obtain⟨l,ps,rfl,_⟩:=h
  rfl
 obtain⟨l,ps,rfl,⟨as,hl,hp⟩,hlen,q⟩:=h
 refine⟨_,(yc (yy (yN WL (pv 0) (jd y0b rfl (Yx (pv 0)) (fun _ _ _ _=>Jp) (fun _ _ _ _=>(J4 (y0 (yq (Jr (K:=K) rfl) (pv 0) ye (fun _ _=>rfl)) (y0 (yq (Jr (K:=K) rfl) (pv 0) ye (fun _ _=>rfl)) y3)))))))), ?_⟩
 have hpl:=Paired.len hp
 have hml:(as.map V.ref).length=ps.length:=by rw [yc2]; exact hpl
 refine⟨_,rfl,_,rfl,l,rfl,⟨_,SqL.of hl⟩,Jq (K:=K) (a:=l) (xs:=as.map V.ref) (fun i ys H2=>∃bs:List Addr,ys=bs.map V.ref∧yg H H2∧Paired (fun a p=>H2 a=some (.tup (pr p))) bs ((ps.take i).map swap)) ⟨[],rfl,yg.refl _, .nil⟩ (fun i ys H2 hi ⟨bs,e,s2,hb⟩=> ?_) (by rw [hml]; exact JB (by omega)) (fun i x ys H2 hx ⟨bs,e,s2,hb⟩=> ?_) (fun ys H2 ⟨bs,e,s2,hb⟩ p hpn=> ?_)⟩
 ·subst e
  refine⟨SqL.of (s2 _ _ hl), ?_⟩
  have:=Paired.len hb
  rw [yc2,yd4] at this
  rw [yc2]; omega
 ·subst e
  obtain⟨a,p,rfl,hpi,ha⟩:=jO hp hx
  refine y45 (N:=fun ys H2=>∃bs:List Addr,ys=bs.map V.ref∧yg H H2∧Paired (fun a p=>H2 a=some (.tup (pr p))) bs ((ps.take (i + 1)).map swap)) (s2 _ _ ha) fun b hbn=>⟨bs ++ [b],by rw [yci]; rfl,s2.trans (yb hbn _), ?_⟩
  rw [yE hpi,yci]
  exact Paired.snoc (Paired.mapP hb fun c r e=>yb hbn _ _ _ e) y6
 ·subst e
  rw [hml,yd8] at hb
  have hbl:=Paired.len hb
  rw [yc2] at hbl
  have s3:=yb hpn (.lst (bs.map V.ref))
  refine⟨l,p,_,_,rfl,rfl,s3 _ _ (s2 _ _ hl),y6,JB (by rw [yc2,yc2]; omega),fun l2 h2=> ?_⟩
  have s4:=s2.trans (s3.trans (yb h2 (.lst (as.map V.ref ++ bs.map V.ref))))
  refine q l2 _ s4 (y39 (s2.trans s3) h2) ⟨as ++ bs,by rw [y6,yci],L8 (Paired.mapP hp fun c r e=>s4 _ _ e) (Paired.mapP hb fun c r e=>(s3.trans (yb h2 _)) _ _ e)⟩
end
def Yz(ks:List Int):List (Key × V):=ks.map fun k=>(Sum.inl k,V.bl true)
theorem Qi(ks:List Int)(k:Int):(YM (Yz ks) (Sum.inl k:Key)).isSome=decide (k ∈ ks):=by
 induction ks with
 | nil=>rfl
 | cons x r ih=>
  unfold YM Yz at ih ⊢
  rw [ycv,ye6]
  by_cases e:x=k
  ·have e':(Sum.inl x:Key)=Sum.inl k:=by rw [e]
   rw [decide_eq_true e',decide_eq_true (by rw [e]; exact yc8)]; rfl
  ·have e':¬(Sum.inl x:Key)=Sum.inl k:=fun z=>e (Sum.inl.inj z)
   rw [decide_eq_false e']
   refine ih.trans ?_
   by_cases c:k ∈ r
   ·rw [decide_eq_true c,decide_eq_true (yc9 _ c)]
   ·rw [decide_eq_false c,decide_eq_false fun m=>(ycg.mp m).elim (fun q=>e q.symm) c]
theorem y5u{ks:List Int}{k:Int}(h:k ∉ ks):J2 (Yz ks) (Sum.inl k:Key) (.bl true)=Yz (ks ++ [k]):=by
 rw [ME _ (by
  cases e:YM (Yz ks) (Sum.inl k:Key) with
  | none=>rfl
  | some v=>
   have q:=Qi ks k
   rw [e,decide_eq_false h] at q
   cases q)]
 unfold Yz
 rw [yci]; rfl
theorem QH(ks:List Int):(Yz ks).length=ks.length:=yc2 _
section
variable{P:Program}{w:World}{K:yc3}{mg:Str→Option Value}{base:Heap}
end
def off(g:Int)(p:Int × Int):Bool:= !(decide (g ∈ [p.1,p.2]))
def wo(ps:y8)(g:Int):y8:=ps.filter (off g)
theorem ql(ps:y8)(g:Int):(wo ps g).length≤ps.length:=ydp _ _
theorem QJ{n:Int}{ps:y8}{g:Int}(h:InR n ps):InR n (wo ps g):=fun p hp=>h p (yd0.mp hp).1
theorem y8l{H2:Hp}{js:List Nat}{σ:St}{N:List V→Hp→Prop}{K:yc3}{zs:List V}{a:Addr}{p:Int × Int}{g:Int}(e1:(yJ js σ (some (.ref a)))[1]? =some (some (.int g)))(ha:H2 a=some (.tup (pr p)))(h:N (if off g p=true then zs ++ [V.ref a] else zs) H2) :
  (ZK (tOp (rIn K true) (Jc 1) (Jc 0))) (yJ js σ (some (.ref a))) H2 fun b H3=>if b=true then(Jc 0) (yJ js σ (some (.ref a))) H3 fun y H4=>N (zs ++ [y]) H4 else N zs H3:=by
 refine⟨_,e1,_,rfl,a, [p.1,p.2].map V.int,rfl, .inr (SqT.of ha),rfl,xj _,_,rfl, ?_⟩
 rw [y1b]
 show if (!(decide (g ∈ [p.1,p.2])))=true then _ else _
 by_cases c:g ∈ [p.1,p.2]
 ·have e:off g p=false:=by unfold off; rw [decide_eq_true c]; rfl
  rw [e] at h
  rw [decide_eq_true c]
  exact Y0 (by simpa using h)
 ·have e:off g p=true:=by unfold off; rw [decide_eq_false c]; rfl
  rw [e] at h
  rw [decide_eq_false c]
  exact yT ⟨_,rfl,by simpa using h⟩
theorem wo_lc{K:yc3}{H:Hp}{l:Addr}{as:List Addr}{ps:y8}{g:Int}{js:List Nat}{σ:St}{Q:VK}(hl:H l=some (.lst (as.map V.ref)))(hp:Paired (fun a p=>H a=some (.tup (pr p))) as ps)(hlen:ps.length≤1000)
  (e1:∀a:Addr,(yJ js σ (some (.ref a)))[1]? =some (some (.int g))) (q:∀l2 H',yg H H'→H l2=none→yo H' l2 (wo ps g)→Q (.ref l2) H') :
  LCw js σ (ZK (tOp (rIn K true) (Jc 1) (Jc 0))) (Jc 0) Q (Itl K l) H:=by
 have hpl:=Paired.len hp
 have hml:(as.map V.ref).length=ps.length:=by rw [yc2]; exact hpl
 refine Jq (K:=K) (a:=l) (xs:=as.map V.ref) (fun i ys H2=>H2=H∧∃bs:List Addr,ys=bs.map V.ref∧Paired (fun a p=>H a=some (.tup (pr p))) bs (wo (ps.take i) g)) ⟨rfl, [],rfl, .nil⟩ (fun i ys H2 hi ⟨e,bs,e2,hb⟩=> ?_) (by rw [hml]; exact JB hlen) (fun i x ys H2 hx ⟨e,bs,e2,hb⟩=> ?_) (fun ys H2 ⟨e,bs,e2,hb⟩ p hpn=> ?_)
 ·subst e e2
  refine⟨SqL.of hl, ?_⟩
  have:=Paired.len hb
  have h2:=ql (ps.take i) g
  rw [yd4] at h2
  rw [yc2]; omega
 ·subst e e2
  obtain⟨a,p,rfl,hpi,ha⟩:=jO hp hx
  refine y8l (g:=g) (N:=fun ys H2'=>H2'=H2∧∃bs:List Addr,ys=bs.map V.ref∧Paired (fun a p=>H2 a=some (.tup (pr p))) bs (wo (ps.take (i + 1)) g)) (e1 a) ha ⟨rfl, ?_⟩
  rw [yE hpi]
  unfold wo
  rw [ye7]
  by_cases c:off g p=true
  ·rw [if_pos c]
   refine⟨bs ++ [a],by rw [yci]; rfl, ?_⟩
   rw [ydb,if_pos c,ygt]
   exact Paired.snoc hb ha
  ·rw [if_neg c]
   refine⟨bs,rfl, ?_⟩
   rw [ydb,if_neg c,ygt,ye0]
   exact hb
 ·subst e e2
  rw [hml,yd8] at hb
  have s3:=yb hpn (.lst (bs.map V.ref))
  exact q p _ s3 hpn ⟨bs,y6,Paired.mapP hb fun _ _ e=>s3 _ _ e⟩
def LZ:Sp:=fun vs H Q _=>∃(l:Addr) (ps:y8) (g:Int),vs= [.ref l, .int g]∧yo H l ps∧ps.length≤1000∧∀l2 H',yg H H'→yo H' l2 (wo ps g)→Q (.ref l2) H'
section
variable{P:Program}{w:World}{K:yc3}{mg:Str→Option Value}{base:Heap}
theorem y28{f:Addr}{g:FuncData}(d:DefAt K mg "lanes_without" Yj Yt f g):FnOk P w K mg base CX0 1 f g Yt LZ:=by
 refine d.F.ok qy (fun vs H Q E h=> ?_) (fun cdv A outer s H vs Q E hr h=> ?_)
 ·obtain⟨l,ps,g,rfl,_⟩:=h
  rfl
 obtain⟨l,ps,g,rfl,⟨as,hl,hp⟩,hlen,q⟩:=h
 refine⟨_,(yc (yy (jd QT rfl (Yx (pv 0)) (fun _ _ _ _=>Vb (yt (z5 (K:=K) rfl) (pv 1) (pv 0) (by with_unfolding_all rfl))) (fun _ _ _ _=>(pv 0))))), ?_⟩
 exact⟨_,rfl,l,rfl,⟨_,SqL.of hl⟩,wo_lc (g:=g) hl hp hlen (fun _=>rfl) fun l2 H2 s2 _ hL2=>q l2 H2 s2 hL2⟩
end
structure NearOk (ps:y8) (g:Int) (N:List Int):Prop where
 up:N.Pairwise (· < ·)
 mem:∀x,x ∈ N↔(g,x) ∈ bw ps∧x ≠ g
theorem NearOk.unique{ps:y8}{g:Int}{N M:List Int}(h:NearOk ps g N)(h':NearOk ps g M):N=M:=by
 have nd:∀{l:List Int},l.Pairwise (· < ·)→l.Nodup:=fun {l} q=>q.imp fun {a b} z=>by
  have:a < b:=z
  intro e; omega
 refine ZI (R:=(· < ·)) (fun a b h1 h2=> ?_) (nd h.up) (nd h'.up) (fun x=>(h.mem x).trans (h'.mem x).symm) h.up h'.up
 have z1:a < b:=h1
 have z2:b < a:=h2
 omega
def LY(g:Int)(p:Int × Int):Bool:=decide (p.1=g) && !decide (p.2=g)
theorem y9j{ps:y8}{g:Int}{ks S:List Int}(nd:ks.Nodup)(mem:∀x,x ∈ ks↔x ∈ ((bw ps).filter (LY g)).map (·.2))(hp:S.Perm ks)(hs:S.Pairwise (· ≤ ·)):NearOk ps g S:=by
 refine⟨Zv hs (hp.nodup_iff.mpr nd),fun x=> ?_⟩
 rw [hp.mem_iff,mem,ycf]
 constructor
 ·rintro⟨⟨a,b⟩,h,rfl⟩
  obtain⟨h1,h2⟩:=yd0.mp h
  unfold LY at h2
  rw [yeo,decide_eq_true_iff,yh6,decide_eq_false_iff_not] at h2
  exact⟨by rw [←h2.1]; exact h1,h2.2⟩
 ·rintro⟨h1,h2⟩
  refine⟨(g,x),yd0.mpr ⟨h1, ?_⟩,rfl⟩
  unfold LY
  rw [decide_eq_true rfl,decide_eq_false h2]; rfl
def Cut(ps:y8)(g:Int):Prop:=∃N h x,NearOk ps g N∧N.head? =some h∧x ∈ N∧¬Rch (bw (wo ps g)) h x
open Classical in
noncomputable def ZG (ps:y8) (g:Int):Bool:=decide (Cut ps g)
theorem y4m{ps:y8}{g:Int}(h:Cut ps g):ZG ps g=true:=by unfold ZG; simp [h]
theorem y27{ps:y8}{g:Int}(h:¬Cut ps g):ZG ps g=false:=by unfold ZG; simp [h]
def Ly(H:Hp)(r:Addr)(row:List Int):Prop:=H r=some (.lst (row.map V.int))∧row.length≤500
theorem Ly.mono{H H':Hp}{r:Addr}{row:List Int}(s:yg H H')(h:Ly H r row):Ly H' r row:=⟨s _ _ h.1,h.2⟩
def ZC(ps:y8)(g:Int)(N:List Int)(H:Hp)(a:Addr)(v:V):Prop:=∃(row:List Int) (h x:Int),v= .int x∧Ly H a row∧N.head? =some h∧WalkOk (bw (wo ps g)) row h x
def Zo (H : Hp) (p : Addr) (n : Int) (ps : y8) (g : Int) : Prop := ∃ N, NearOk ps g N ∧ N.length ≤ 64 ∧
  ((∃ (r : Addr) (rs : List Addr), H p = some (.tup [.str "joined", .ref r]) ∧ H r = some (.lst (rs.map V.ref)) ∧ Paired (ZC ps g N H) rs (N.map V.int)) ∨
   (∃ (r : Addr) (row : List Int) (h x : Int), H p = some (.tup [.str "wall", .ref r]) ∧ Ly H r row ∧ N.head? = some h ∧ x ∈ N ∧ WallOk n (bw (wo ps g)) row h x))
theorem ZC.mono{ps:y8}{g:Int}{N:List Int}{H H':Hp}{a:Addr}{v:V}(s:yg H H')(h:ZC ps g N H a v):ZC ps g N H' a v:=by
 obtain⟨row,x,y,e,r,z⟩:=h
 exact⟨row,x,y,e,r.mono s,z⟩
noncomputable def y83 (ps:y8) (n:Nat):List Int:=((ycd n).filter fun k:Nat=>ZG ps (0 + (k:Int))).map fun k:Nat=>0 + (k:Int)
def y5k:Sp:=fun vs H Q _=>∃(l:Addr) (ps:y8) (g:Int),vs= [.ref l, .int g]∧yo H l ps∧ps.length≤31∧∀r N H',yg H H'→H' r=some (.lst (N.map V.int))→N.length≤62→NearOk ps g N→Q (.ref r) H'
def qB:Sp:=fun vs H Q _=>∃(l:Addr) (ps:y8) (n g:Int),vs= [.ref l, .int g]∧yo H l ps∧ps.length≤31∧InR n ps∧n < 64∧∀p H',yg H H'→Zo H' p n ps g→Q (.ref p) H'
def y49:Sp:=fun vs H Q _=>∃(n:Nat) (l:Addr) (ps:y8),vs= [.int (n:Int), .ref l]∧yo H l ps∧ps.length≤31∧InR n ps∧n < 64∧∀p H',yg H H'→H' p=some (.lst ((y83 ps n).map V.int))→Q (.ref p) H'
def y1j:Sp:=fun vs H Q _=>∃(n:Int) (l:Addr) (ps:y8) (g:Int),vs= [.int n, .ref l, .int g]∧yo H l ps∧ps.length≤31∧InR n ps∧(0≤g∧g < n)∧n < 64∧∀p H',yg H H'→Zo H' p n ps g→Q (.ref p) H'
section
variable{P:Program}{w:World}{K:yc3}{mg:Str→Option Value}{base:Heap}
variable{fCheck fCheckL fReach fRow fBoth fWo fNear fPlace fCuts fPTold:Addr}{gCheck gCheckL gReach gRow gBoth gWo gNear gPlace gCuts gPTold:FuncData}
theorem y99(d:DefAt K mg "neighbours" YX jr fNear gNear)(z:Zs mg)(Y5:DefAt K mg "both_ways" YT YS fBoth gBoth)(jD:FnOk P w K mg base CX0 1 fBoth gBoth YS Zi):FnOk P w K mg base CX0 2 fNear gNear jr y5k:=by
 refine d.F.ok zT (fun vs H Q E h=> ?_) (fun cdv A outer s H vs Q E hr h=> ?_)
 ·obtain⟨l,ps,g,rfl,_⟩:=h
  rfl
 obtain⟨l,ps,g,rfl,hL,hlen,q⟩:=h
 refine⟨_,(yc (yy (yC (M7 rfl) rfl z.sorted Vu (y0 (Jj (Md rfl) rfl z.set Mu (y0 (jd zi rfl (Yx (yd jD (hr.mono (by decide)) rfl Y5.m Y5.F.kp Y5.b .nil yr (y0 (pv 0) y3))) (fun _ _ _ _=>Vb (PW.pt (L4 (yt Y1 (yq (Jr (K:=K) rfl) (pv 0) ye (fun _ _=>rfl)) (pv 1) (yx _)) (Vs (yt M0 (yq (Jr (K:=K) rfl) (pv 0) ye (fun _ _=>rfl)) (pv 1) (yx _)))))) (fun _ _ _ _=>(yq (Jr (K:=K) rfl) (pv 0) ye (fun _ _=>rfl)))) y3)) y3)))), ?_⟩
 refine⟨_,rfl,l,ps,rfl,hL,by omega,fun l2 H1 s1 _ hL1=> ?_⟩
 obtain⟨as,hl,hp⟩:=hL1
 have hbl:=QR ps
 refine⟨l2,rfl,⟨_,SqL.of hl⟩,y7f (K:=K) (LY g) (fun p=>V.int p.2) hl hp (by omega) (fun a p hpm H2 s2 ha R hR=> ?_) (fun a p hpm c H2 s2 ha R hR=> ?_) (fun H2 b s2 hb=> ?_)⟩
 ·refine⟨_,rfl,a,_,_,_,rfl,rfl,SqT.of ha,rfl,_,rfl,rfl,_,rfl, ?_⟩
  have h3:=hR H2 (yg.refl _)
  unfold LY at h3
  by_cases c1:p.1=g
  ·rw [decide_eq_true (congrArg V.int c1)]
   rw [decide_eq_true c1] at h3
   refine yT ⟨_,rfl,a,_,_,_,rfl,rfl,SqT.of ha,rfl,_,rfl,rfl,_,rfl, ?_⟩
   by_cases c2:p.2=g
   ·rw [decide_eq_true (congrArg V.int c2)]
    rw [decide_eq_true c2] at h3
    exact h3
   ·rw [decide_eq_false fun z=>c2 (V.int.inj z)]
    rw [decide_eq_false c2] at h3
    exact h3
  ·rw [decide_eq_false fun z=>c1 (V.int.inj z)]
   rw [decide_eq_false c1] at h3
   exact Y0 h3
 ·exact⟨_,rfl,a,_,_,_,rfl,rfl,SqT.of ha,rfl,hR H2 (yg.refl _)⟩
 ·have e:((bw ps).filter (LY g)).map (fun p=>V.int p.2)=(((bw ps).filter (LY g)).map (·.2)).map V.int:=by rw [ydg]; rfl
  have hfl:=ydp (LY g) (bw ps)
  rw [e]
  refine⟨b,_,rfl,SqL.of y6,by rw [yc2]; omega,fun ks nd kl mem a ha=> ?_⟩
  rw [yc2] at kl
  refine⟨a,ks,rfl,y6,by omega,fun S hp hs r hr=> ?_⟩
  have:=hp.length_eq
  exact q r S _ (s1.trans (s2.trans ((yb hb _).trans ((yb ha _).trans (yb hr _))))) y6 (by omega) (y9j nd mem hp hs)
theorem y6j(d:DefAt K mg "walks_or_wall" Yp J6 fPlace gPlace)(z:Zs mg)(ju:DefAt K mg "neighbours" YX jr fNear gNear)(y0e:FnOk P w K mg base CX0 2 fNear gNear jr y5k)
  (Ym:DefAt K mg "reach" jI jn fReach gReach) (L3:FnOk P w K mg base CX0 2 fReach gReach jn Mt) (J8:DefAt K mg "row_to" jM jj fRow gRow) (Zz:FnOk P w K mg base CX0 1 fRow gRow jj y2g)
  (Y5:DefAt K mg "both_ways" YT YS fBoth gBoth) (jD:FnOk P w K mg base CX0 1 fBoth gBoth YS Zi) (yV:DefAt K mg "lanes_without" Yj Yt fWo gWo) (jl:FnOk P w K mg base CX0 1 fWo gWo Yt LZ) :
  FnOk P w K mg base CX0 3 fPlace gPlace J6 qB:=by
 refine d.F.ok Ld (fun vs H Q E h=> ?_) (fun cdv A outer s H vs Q E hr h=> ?_)
 ·obtain⟨l,ps,n,g,rfl,_⟩:=h
  rfl
 obtain⟨l,ps,n,g,rfl,hL,hlen,hin,hn,q⟩:=h
 have hu:=Lp hr
 refine⟨_,(y7 (yB (i:=2) Ld.nd rfl (Or.inl rfl) (yd y0e (hr.mono (by decide)) rfl ju.m ju.F.kp ju.b .nil yr (y0 (pv 0) (y0 (pv 1) y3))))
   (y7 (yP (yt Y1 (yC yO rfl z.len Yn (y0 (pv 2) y3)) ye (yx _)) (yc (yy (J4 (y0 YQ (y0 (yZ y3) y3))))) yQ)
   (y7 (yB (i:=3) Ld.nd rfl (Or.inr rfl) (yd L3 (hr.mono (by decide)) rfl Ym.m Ym.F.kp Ym.b .nil yr (y0 (yd jD (hr.mono (by decide)) rfl Y5.m Y5.F.kp Y5.b .nil yr (y0 (yd jl (hr.mono (by decide)) rfl yV.m yV.F.kp yV.b .nil yr (y0 (pv 0) (y0 (pv 1) y3))) y3)) (y0 (yq yS (pv 2) ye (fun _ _=>rfl)) y3))))
   (y7 (yP (Jv (yC (zP rfl) rfl z.all y30 (y0 (jd qL rfl (Yx (pv 2)) (fun _ _ _ _=>Jp) (fun _ _ _ _=>(ybj (Zt hu (pv 0) (pv 1))))) y3))) (yc (yy (J4 (y0 YQ (y0 (jd qI rfl (Yx (pv 2)) (fun _ _ _ _=>Jp) (fun _ _ _ _=>(yd Zz (hr.mono (by decide)) rfl J8.m J8.F.kp J8.b .nil yr (y0 (pv 1) (y0 (pv 0) y3))))) y3))))) yQ)
   (yc (yy (J4 (y0 YQ (y0 (yC (LS rfl) rfl z.sorted Vu (y0 (pv 3) y3)) y3))))))))), ?_⟩
 refine zm ?_
 intro R4 R3 R2 R1
 refine⟨_,rfl,_,rfl,l,ps,g,rfl,hL,hlen,fun r N H1 s1 hN hNl O=> ?_⟩
 refine⟨_,rfl,r,_,rfl, .inl (SqL.of hN),rfl,_,rfl, ?_⟩
 cases N with
 | nil=>
  refine yT ⟨(by show 0≤sizeLine; decide),fun e he=>⟨(by show 2≤sizeLine; decide),fun p hp=> ?_⟩⟩
  have s2:=yb he (.lst [])
  have s3:=yb hp (.tup [.str "joined", .ref e])
  exact q p _ (s1.trans (s2.trans s3)) ⟨[],O,by show 0≤64; decide, .inl ⟨e, [],y6,s3 _ _ y6, .nil⟩⟩
 | cons h0 N0=>
  refine Y0 ?_
  have hh:=(O.mem h0).mp yc8
  have hh0:=(MU hin (g,h0) hh.1).2
  have hwl:=ql ps g
  refine⟨_,rfl,_,rfl,l,ps,g,rfl,hL.mono s1,by omega,fun l2 H2 s2 hL2=> ?_⟩
  refine⟨l2,wo ps g,rfl,hL2,by omega,fun l3 H3 s3 _ hL3=> ?_⟩
  have s13:=s2.trans s3
  have hN3:=s13 _ _ hN
  have hbl:=QR (wo ps g)
  refine⟨_,rfl,r,_,_,_,rfl,rfl,SqL.of hN3,JF (j:=0) (v:=V.int h0) rfl,l3,bw (wo ps g),n,h0,rfl,hL3,by omega,MU (QJ hin),hh0,by omega,fun dd t H4 s4 _ hd R_ D=> ?_⟩
  have s14:=s13.trans s4
  have hN4:=s14 _ _ hN
  have htl:=R_.len_le hh0 (MU (QJ hin))
  have hall:∀x ∈ h0 :: N0,(0≤x∧x < n):=fun x hx=>(MU hin (g,x) ((O.mem x).mp hx).1).2
  refine⟨_,rfl,r,rfl,⟨_,SqL.of hN4⟩,y6f (K:=K) (fun x=>V.bl (decide (x ∈ keys t))) hN4 (by omega) (fun x hx H5 s5 R hR=> ?_) (fun H5 b s5 hb=> ?_)⟩
  ·refine⟨_,rfl,_,rfl,dd,_,rfl,JC.k (k:=Sum.inl x) (s5 _ _ hd), ?_⟩
   rw [JG]
   exact hR H5 (yg.refl _)
  have sb:=yb hb (.lst ((h0 :: N0).map fun x=>V.bl (decide (x ∈ keys t))))
  have s6:=s14.trans (s5.trans sb)
  have hd6:=sb _ _ (s5 _ _ hd)
  have hN6:=s6 _ _ hN
  refine⟨b,(h0 :: N0).map (fun x=>decide (x ∈ keys t)),rfl,SqL.of (by rw [y6,ydg]; rfl),_,rfl, ?_⟩
  by_cases c:∀x ∈ h0 :: N0,x ∈ keys t
  ·have e:((h0 :: N0).map fun x=>decide (x ∈ keys t)).all id=true:=by
    rw [yix,ye9]
    exact fun x hx=>decide_eq_true (c x hx)
   rw [e]
   refine yT ⟨_,rfl,r,rfl,⟨_,SqL.of hN6⟩,y9v (K:=K) (ZC ps g (h0 :: N0)) (fun _ _ _ _ s z=>z.mono s) hN6 (by rw [yc2]; omega) (fun v hv H7 s7 R hR=> ?_) (fun H7 p bs s7 hp hbs=> ?_)⟩
   ·obtain⟨x,hx,rfl⟩:=ycf.mp hv
    refine⟨_,rfl,_,rfl,dd,t,bw (wo ps g),h0,x,rfl,s7 _ _ hd6,by omega,R_,c x hx,fun a row H8 s8 ha hal W=>hR a H8 s8 ⟨row,h0,x,rfl,⟨ha,hal⟩,rfl,W⟩⟩
   ·have s8:=yb hp (.lst (bs.map V.ref))
    refine⟨(by show 2≤sizeLine; decide),fun p2 hp2=> ?_⟩
    have s9:=yb hp2 (.tup [.str "joined", .ref p])
    exact q p2 _ (s1.trans (s6.trans (s7.trans (s8.trans s9)))) ⟨h0 :: N0,O,by omega, .inl ⟨p,bs,y6,s9 _ _ y6,Paired.mapP hbs fun _ _ z=>z.mono (s8.trans s9)⟩⟩
  ·have e:((h0 :: N0).map fun x=>decide (x ∈ keys t)).all id=false:=by
    cases e:((h0 :: N0).map fun x=>decide (x ∈ keys t)).all id with
    | false=>rfl
    | true=>
     rw [yix,ye9] at e
     exact absurd (fun x hx=>of_decide_eq_true (e x hx)) c
   rw [e]
   obtain⟨x,hx,hxt⟩:∃x ∈ h0 :: N0,x ∉ keys t:=by
    by_cases z:∃x ∈ h0 :: N0,x ∉ keys t
    ·exact z
    ·exact absurd (fun x hx=>Classical.byContradiction fun y=>z ⟨x,hx,y⟩) c
   have hkl:(keys t).length=t.length:=yc2 _
   refine Y0 ⟨_,rfl,dd,_,keys t,rfl,hd6,VW t,by omega,fun row hp1 hp2 r2 hr2=>⟨(by show 2≤sizeLine; decide),fun p hp=> ?_⟩⟩
   have s8:=yb hr2 (.lst (row.map V.int))
   have s9:=yb hp (.tup [.str "wall", .ref r2])
   have:=hp1.length_eq
   exact q p _ (s1.trans (s6.trans (s8.trans s9))) ⟨h0 :: N0,O,by omega, .inr ⟨r2,row,h0,x,y6,⟨s9 _ _ y6,by omega⟩,rfl,hx,y1d R_ D hh0 (MU (QJ hin)) hp1 hp2 hxt⟩⟩
theorem y77{H:Hp}{p:Addr}{n:Int}{ps:y8}{g:Int}(T:Zo H p n ps g):∃(w0:Str) (r:Addr),H p=some (.tup [.str w0, .ref r])∧((w0="joined"∧ZG ps g=false)∨(w0="wall"∧ZG ps g=true)):=by
 obtain⟨N,O,_,h⟩:=T
 rcases h with⟨r,rs,h1,h2,h3⟩ | ⟨r,row,h,x,h1,h2,h3,h4,h5⟩
 ·refine⟨_,r,h1, .inl ⟨rfl,y27 ?_⟩⟩
  rintro⟨M,h,x,O',e1,e2,e3⟩
  have eM:=O'.unique O
  subst eM
  obtain⟨i,hi⟩:=yd1.mp e2
  obtain⟨a,_,row,h',y,ey,_,e4,W⟩:=Vz h3 (i:=i) (p:= .int x) (by rw [yca,hi]; rfl)
  have ex:x=y:=V.int.inj ey
  subst ex
  rw [e1] at e4
  have eh:=Option.some.inj e4
  subst eh
  exact e3 (Qe W)
 ·exact⟨_,r,h1, .inr ⟨rfl,y4m ⟨N,h,x,O,h3,h4,WE h5⟩⟩⟩
theorem y95(d:DefAt K mg "cut_places" J1 JO fCuts gCuts)(z:Zs mg)(y4:DefAt K mg "check_lanes" yw yh fCheckL gCheckL)(yj:FnOk P w K mg base CX0 3 fCheckL gCheckL yh YW)
  (Yq:DefAt K mg "walks_or_wall" Yp J6 fPlace gPlace) (LM:FnOk P w K mg base CX0 3 fPlace gPlace J6 qB):FnOk P w K mg base CX0 4 fCuts gCuts JO y49:=by
 refine d.F.ok Q6 (fun vs H Q E h=> ?_) (fun cdv A outer s H vs Q E hr h=> ?_)
 ·obtain⟨n,l,ps,rfl,_⟩:=h
  rfl
 obtain⟨n,l,ps,rfl,hL,hlen,hin,hn,q⟩:=h
 refine⟨_,(y7 (yl (yd yj (hr.mono (by decide)) rfl y4.m y4.F.kp y4.b .nil yr (y0 (pv 0) (y0 (pv 1) y3))))
   (yc (yy (jd WJ rfl (Jk rfl z.range (y0 (pv 0) y3)) (fun _ _ _ _=>Vb (yt Y1 (yq (Jr (K:=K) rfl) (yd LM (hr.mono (by decide)) rfl Yq.m Yq.F.kp Yq.b .nil yr (y0 (pv 1) (y0 (pv 0) y3))) ye (fun _ _=>rfl)) YQ (yx _))) (fun _ _ _ _=>(pv 0)))))), ?_⟩
 refine⟨_,rfl,_,rfl,(n:Int),l,ps,rfl,hL,hin,fun H1 s1=> ?_⟩
 refine⟨_,rfl,(n:Int),rfl,by omega,by omega,Qt (n:=(n:Int).toNat) (fun k=>ZG ps (0 + (k:Int))) (fun k=>V.int (0 + (k:Int))) (by omega) (fun i hi H2 s2 R hR=> ?_) (fun i hi c H2 s2 R hR=>⟨_,rfl,hR H2 (yg.refl _)⟩) (fun H2 p s2 hp=> ?_)⟩
 ·refine⟨_,rfl,_,rfl,l,ps,(n:Int),(0 + (i:Int)),rfl,(hL.mono s1).mono s2,hlen,hin,by omega,fun p H3 s3 T=> ?_⟩
  obtain⟨w0,r,hp,hw⟩:=y77 T
  have h3:=hR H3 s3
  refine⟨p,_,_,_,rfl,rfl,SqT.of hp,rfl,rfl,_,rfl, ?_⟩
  rcases hw with⟨rfl,c⟩ | ⟨rfl,c⟩
  ·rw [c] at h3; exact h3
  ·rw [c] at h3; exact h3
 ·refine q p _ (s1.trans (s2.trans (yb hp _))) ?_
  rw [y6]
  unfold y83
  rw [ydg]
  rfl
theorem y71(d:DefAt K mg "place_told" Jf JN fPTold gPTold)(y4:DefAt K mg "check_lanes" yw yh fCheckL gCheckL)(yj:FnOk P w K mg base CX0 3 fCheckL gCheckL yh YW)
  (y9:DefAt K mg "check_places" yG yk fCheck gCheck) (yp:FnOk P w K mg base CX0 2 fCheck gCheck yk (jS K)) (Yq:DefAt K mg "walks_or_wall" Yp J6 fPlace gPlace) (LM:FnOk P w K mg base CX0 3 fPlace gPlace J6 qB):FnOk P w K mg base CX0 4 fPTold gPTold JN y1j:=by
 refine d.F.ok Q5 (fun vs H Q E h=> ?_) (fun cdv A outer s H vs Q E hr h=> ?_)
 ·obtain⟨n,l,ps,g,rfl,_⟩:=h
  rfl
 obtain⟨n,l,ps,g,rfl,hL,hlen,hin,hg,hn,q⟩:=h
 refine⟨_,(y7 (yl (yd yj (hr.mono (by decide)) rfl y4.m y4.F.kp y4.b .nil yr (y0 (pv 0) (y0 (pv 1) y3))))
   (y7 (yl (yd yp (hr.mono (by decide)) rfl y9.m y9.F.kp y9.b .nil yr (y0 (pv 0) (y0 (yZ (y0 (pv 2) y3)) y3))))
   (yc (yy (yd LM (hr.mono (by decide)) rfl Yq.m Yq.F.kp Yq.b .nil yr (y0 (pv 1) (y0 (pv 2) y3))))))), ?_⟩
 refine Vv ?_
 intro R2 R1
 refine⟨_,rfl,_,rfl,n,l,ps,rfl,hL,hin,fun H1 s1=> ?_⟩
 refine⟨_,rfl,_,rfl,(by show 1≤sizeLine; decide),fun e he=> ?_⟩
 have se:=yb he (.lst [.int g])
 refine⟨n,e, [g],rfl, .inl (SqL.of y6),(by show 1≤1000; decide),fun x hx=> ?_,fun H2 s2=> ?_⟩
 ·rw [ycb.mp hx]; exact hg
 have s3:=s1.trans (se.trans s2)
 exact⟨_,rfl,_,rfl,l,ps,n,g,rfl,hL.mono s3,hlen,hin,hn,fun p H' s' T=>q p H' (s3.trans s') T⟩
end
theorem y96{n k:Nat}{x:Int}(hx:x=(k:Int))(h:k < n):ixN n x=some k:=by
 unfold ixN
 rw [hx,if_pos (by omega),if_pos (by omega)]
 congr 1
def Zj:Sp:=fun vs H Q _=>∃(n:Int) (l:Addr) (ps:y8) (st:Int),vs= [.int n, .ref l, .int st]∧yo H l ps∧ps.length≤1000∧InR n ps∧(0≤st∧st < n)∧n < 64∧
 ∀r (Ls:List (Option Int)) H',yg H H'→H' r=some (.lst (Ls.map je))→Ls.length=n.toNat→(∀(x:Nat) (o:Option Int),Ls[x]? =some o→QK ps st (x:Int) o)→Q (.ref r) H'
section
variable{P:Program}{w:World}{K:yc3}{mg:Str→Option Value}{base:Heap}
variable{fCheck fCheckL fReach fWo fLead:Addr}{gCheck gCheckL gReach gWo gLead:FuncData}
set_option maxHeartbeats 0 in
theorem y1x(d:DefAt K mg "leaders" Js Ja fLead gLead)(z:Zs mg)(y4:DefAt K mg "check_lanes" yw yh fCheckL gCheckL)(yj:FnOk P w K mg base CX0 3 fCheckL gCheckL yh YW)
  (y9:DefAt K mg "check_places" yG yk fCheck gCheck) (yp:FnOk P w K mg base CX0 2 fCheck gCheck yk (jS K)) (Ym:DefAt K mg "reach" jI jn fReach gReach) (L3:FnOk P w K mg base CX0 2 fReach gReach jn Mt)
  (yV:DefAt K mg "lanes_without" Yj Yt fWo gWo) (jl:FnOk P w K mg base CX0 1 fWo gWo Yt LZ):FnOk P w K mg base CX0 4 fLead gLead Ja Zj:=by
 refine d.F.ok jC (fun vs H Q E h=> ?_) (fun cdv A outer s H vs Q E hr h=> ?_)
 ·obtain⟨n,l,ps,st,rfl,_⟩:=h
  rfl
 obtain⟨n,l,ps,st,rfl,hL,hlen,hin,hst,hn,q⟩:=h
 have hu:=Lp hr
 refine⟨_,(y7 (yl (yd yj (hr.mono (by decide)) rfl y4.m y4.F.kp y4.b .nil yr (y0 (pv 0) (y0 (pv 1) y3))))
   (y7 (yl (yd yp (hr.mono (by decide)) rfl y9.m y9.F.kp y9.b .nil yr (y0 (pv 0) (y0 (yZ (y0 (pv 2) y3)) y3))))
   (y7 (yB (i:=3) jC.nd rfl (Or.inl rfl) (yN y5q (yZ (y0 WS y3)) (pv 0)))
   (y7 (yB (i:=4) jC.nd rfl (Or.inl rfl) (yd L3 (hr.mono (by decide)) rfl Ym.m Ym.F.kp Ym.b .nil yr (y0 (pv 1) (y0 (pv 2) y3))))
   (y7 (JW PassesOwn.never rfl (y15 (pv 4)) (YR (i:=5) jC.nd rfl (Or.inl rfl)) (y7 (yB (i:=6) jC.nd rfl (Or.inl rfl) (yd L3 (hr.mono (by decide)) rfl Ym.m Ym.F.kp Ym.b .nil yr (y0 (yd jl (hr.mono (by decide)) rfl yV.m yV.F.kp yV.b .nil yr (y0 (pv 1) (y0 (pv 5) y3))) (y0 (pv 2) y3))))
   (yc (JW PassesOwn.never rfl (y15 (pv 4)) (YR (i:=7) jC.nd rfl (Or.inl rfl)) (yc (yP (PW.pt (L4 (jW (Zb hu (pv 7) (pv 6))) (Vs (yt M0 (pv 7) (pv 5) (yx _))))) (yc (WP (pv 5) (Wl (pv 3) (pv 7) Qx))) yQ))))))
   (yc (yy (pv 3)))))))), ?_⟩
 refine y88 ?_
 intro R5 R4 R3 R2 R1
 refine⟨_,rfl,_,rfl,n,l,ps,rfl,hL,hin,fun H1 s1=> ?_⟩
 refine⟨_,rfl,_,rfl,(by show 1≤sizeLine; decide),fun e he=> ?_⟩
 have se:=yb he (.lst [.int st])
 refine⟨n,e, [st],rfl, .inl (SqL.of y6),(by show 1≤1000; decide),fun x hx=> ?_,fun H2 s2=> ?_⟩
 ·rw [ycb.mp hx]; exact hst
 have s02:=s1.trans (se.trans s2)
 refine⟨(by show 1≤sizeLine; decide),fun e2 he2=> ?_⟩
 have se2:=yb he2 (.lst [.non])
 refine⟨_,rfl,e2,n, [.non],rfl,rfl,y6,by omega,by omega,(by show 1 * n.toNat≤sizeLine; rw [sizeLine_eq]; omega),fun fA hfA=> ?_⟩
 have erep:(ycz n.toNat [V.non]).flatten=(ycz n.toNat (none:Option Int)).map je:=by rw [ygf,List.map_replicate]; rfl
 rw [erep]
 have s3:=se2.trans (yb hfA (.lst ((ycz n.toNat (none:Option Int)).map je)))
 have s03:=s02.trans s3
 have hfA0:H fA=none:=(s02.trans se2).free hfA
 have hF:(upd (upd H2 e2 (.lst [.non])) fA (.lst ((ycz n.toNat (none:Option Int)).map je))) fA=some (.lst ((ycz n.toNat (none:Option Int)).map je)):=y6
 generalize upd (upd H2 e2 (.lst [.non])) fA (.lst ((ycz n.toNat (none:Option Int)).map je))=H3 at s3 s03 hF ⊢
 refine⟨_,rfl,_,rfl,l,ps,n,st,rfl,hL.mono s03,hlen,hin,hst,by omega,fun dd t H4 s4 hdn hd R D=> ?_⟩
 have s04:=s03.trans s4
 have hdd0:H dd=none:=s03.free hdn
 have hfd:fA ≠ dd:=fun z=>by rw [←z,s4 _ _ hF] at hd; cases hd
 have hkr:=R.in_range hst hin
 refine⟨_,rfl,dd,Yh t,keys t,rfl,VW t, .inl ⟨hd,fun ob=>Ws (a:=dd) (ob:=ob) (ks:=keys t) (fun i σ H5=>∃(Ls:List (Option Int)) (v5 v6 v7:Option V),σ= [some (.int n),some (.ref l),some (.int st),some (.ref fA),some (.ref dd),v5,v6,v7]∧yg H H5∧
   H5 fA=some (.lst (Ls.map je))∧H5 dd=some (.frz ob (.dK (Yh t)))∧Ls.length=n.toNat∧∀(x:Nat) (o:Option Int),Ls[x]? =some o→V0 ps st ((keys t).take i) (x:Int) o)
  ⟨ycz n.toNat none,none,none,none,rfl,YV s04 hdd0 _,by rw [yi hfd]; exact s4 _ _ hF,y6,yfu,fun x o hx=> ?_⟩ (fun i σ H5 _ ⟨_,_,_,_,_,_,_,h5,_⟩=>⟨_,h5⟩) ?_ ?_⟩⟩
 ·have:o=none:=by
   obtain⟨_,e⟩:=yc5.mp hx
   rw [List.getElem_replicate] at e
   exact e.symm
  rw [this]; exact y7z ps st _
 ·rintro i g σ H5 hg ⟨Ls,v5,v6,v7,rfl,s5,hF5,hD5,hLl,hI⟩
  have hgm:g ∈ keys t:=yce hg
  refine⟨_,rfl,_,rfl,l,ps,g,rfl,hL.mono s5,hlen,fun l2 H6 s6 hL6=> ?_⟩
  have hwl:=ql ps g
  refine⟨_,rfl,l2,wo ps g,n,st,rfl,hL6,by omega,QJ hin,hst,by omega,fun d2 t2 H7 s7 hd2n hd2 R2 D2=> ?_⟩
  have s57:=s6.trans s7
  have hF7:=s57 _ _ hF5
  have hD7:=s57 _ _ hD5
  refine⟨_,rfl,dd,Yh t,keys t,rfl,VW t, .inr ⟨ob,hD7,Ws (a:=dd) (ob:=ob) (ks:=keys t) (fun j σ H8=>∃(Ls':List (Option Int)) (v7:Option V),σ= [some (.int n),some (.ref l),some (.int st),some (.ref fA),some (.ref dd),some (.int g),some (.ref d2),v7]∧yg H H8∧
    H8 fA=some (.lst (Ls'.map je))∧H8 dd=some (.frz ob (.dK (Yh t)))∧H8 d2=some (.dK (Yh t2))∧Ls'.length=n.toNat∧∀(x:Nat) (o:Option Int),Ls'[x]? =some o→((x:Int) ∈ (keys t).take j→V0 ps st ((keys t).take i ++ [g]) (x:Int) o)∧((x:Int) ∉ (keys t).take j→V0 ps st ((keys t).take i) (x:Int) o))
   ⟨Ls,_,rfl,s5.trans s57,hF7,hD7,hd2,hLl,fun x o hx=>⟨fun m=>by simp at m,fun _=>hI x o hx⟩⟩ (fun j σ H8 _ ⟨_,_,_,_,_,h8,_⟩=>⟨_,h8⟩) ?_ ?_⟩⟩
  ·rintro j p σ H8 hp ⟨Ls',v7,rfl,s8,hF8,hD8,hd8,hLl8,hI8⟩
   have hpm:p ∈ keys t:=yce hp
   have hpr:=hkr p hpm
   obtain⟨pn,hpn⟩:∃pn:Nat,p=(pn:Int):=⟨p.toNat,by omega⟩
   have hpR:Rch ps st p:=(VI R D).mp hpm
   have hpt:(keys t).take (j + 1)=(keys t).take j ++ [p]:=yE hp
   have npj:p ∉ (keys t).take j:=fun m=>by
    have nd:=R.nd
    rw [←ygk (j + 1) (keys t),hpt] at nd
    have:=(yel.mp (yel.mp nd).1).2.2 p m p yc8
    exact this rfl
   have keep:¬(Y4 ps st g p∧g ≠ p)→∀(x:Nat) (o:Option Int),Ls'[x]? =some o→((x:Int) ∈ (keys t).take (j + 1)→V0 ps st ((keys t).take i ++ [g]) (x:Int) o)∧((x:Int) ∉ (keys t).take (j + 1)→V0 ps st ((keys t).take i) (x:Int) o):=fun no x o hx=>by
    rw [hpt]
    refine⟨fun m=> ?_,fun m=>(hI8 x o hx).2 fun m'=>m (yde _ m')⟩
    rcases ycw.mp m with m | m
    ·exact(hI8 x o hx).1 m
    ·have e:=ycb.mp m
     rw [e]
     refine y0l ?_ no
     rw [←e]
     exact(hI8 x o hx).2 (by rw [e]; exact npj)
   refine⟨_,rfl,_,rfl,d2,_,rfl,JC.k (k:=Sum.inl p) hd8,_,rfl, ?_⟩
   rw [JG]
   by_cases c:p ∈ keys t2
   ·rw [decide_eq_true c]
    have no:¬(Y4 ps st g p∧g ≠ p):=fun y=>((xH hpR).mpr y).1 ((VI R2 D2).mp c)
    exact Y0 (Y0 ⟨Ls',_,rfl,s8,hF8,hD8,hd8,hLl8,keep no⟩)
   ·rw [decide_eq_false c]
    refine yT ⟨_,rfl,_,rfl,rfl,_,rfl, ?_⟩
    by_cases c2:p=g
    ·rw [decide_eq_true (congrArg V.int c2)]
     exact Y0 ⟨Ls',_,rfl,s8,hF8,hD8,hd8,hLl8,keep fun y=>y.2 c2.symm⟩
    ·rw [decide_eq_false fun y=>c2 (V.int.inj y)]
     have yes:=(xH hpR).mp ⟨fun y=>c ((VI R2 D2).mpr y),c2⟩
     refine yT ⟨_,rfl,_,rfl,_,rfl,fA,_,p,pn,rfl,rfl,hF8,y96 hpn (by rw [yc2]; omega), ?_⟩
     have eset:(Ls'.map je).set pn (.int g)=(Ls'.set pn (some g)).map je:=by rw [List.map_set]; rfl
     rw [eset]
     have nfd:dd ≠ fA:=Ne.symm hfd
     have nf2:d2 ≠ fA:=fun y=>by rw [y,hF8] at hd8; cases hd8
     refine⟨Ls'.set pn (some g),_,rfl,YV s8 hfA0 _,y6,by rw [yi nfd]; exact hD8,by rw [yi nf2]; exact hd8,by rw [yfn]; exact hLl8,fun x o hx=> ?_⟩
     rw [hpt]
     by_cases cx:x=pn
     ·subst cx
      have hlt:x < Ls'.length:=by omega
      rw [yem hlt] at hx
      cases hx
      refine⟨fun _=>by rw [←hpn]; exact y6l yes.1 yes.2,fun m=>absurd (ycx _ (by rw [←hpn]; exact yc8)) m⟩
     ·rw [yet (Ne.symm cx)] at hx
      have nex:(x:Int) ≠ p:=fun y=>cx (by omega)
      refine⟨fun m=> ?_,fun m=>(hI8 x o hx).2 fun m'=>m (yde _ m')⟩
      rcases ycw.mp m with m | m
      ·exact(hI8 x o hx).1 m
      ·exact absurd (ycb.mp m) nex
  ·rintro σ H8 ⟨Ls',v7,rfl,s8,hF8,hD8,hd8,hLl8,hI8⟩
   refine⟨Ls',_,_,_,rfl,s8,hF8,hD8,hLl8,fun x o hx=> ?_⟩
   rw [yE hg]
   rw [yd8] at hI8
   by_cases m:(x:Int) ∈ keys t
   ·exact(hI8 x o hx).1 m
   ·exact y0l ((hI8 x o hx).2 m) fun y=>m ((VI R D).mpr y.1.1)
 ·rintro σ H5 ⟨Ls,v5,v6,v7,rfl,s5,hF5,hD5,hLl,hI⟩
  rw [yd8] at hI
  exact⟨_,rfl,q fA Ls H5 s5 hF5 hLl fun x o hx=>y37 R D (hI x o hx)⟩
end
def y31:Sp:=fun vs H Q _=>∃(fA:Addr) (Ls:List (Option Int)) (ps:y8) (n:Nat) (st pl:Int),vs= [.ref fA, .int pl]∧H fA=some (.lst (Ls.map je))∧Ls.length=n∧(∀(x:Nat) (o:Option Int),Ls[x]? =some o→QK ps st (x:Int) o)∧Rch ps st pl∧InR n ps∧(0≤st∧st < n)∧n < 64∧
 ∀r row H',yg H H'→H' r=some (.lst (row.map V.int))→row.length≤64→MustRow ps st pl row→Q (.ref r) H'
section
variable{P:Program}{w:World}{K:yc3}{mg:Str→Option Value}{base:Heap}
variable{fRow:Addr}{gRow:FuncData}
theorem ya1(d:DefAt K mg "row_to" jM jj fRow gRow)(z:Zs mg):FnOk P w K mg base CX0 1 fRow gRow jj y31:=by
 refine d.F.ok Q1 (fun vs H Q E h=> ?_) (fun cdv A outer s H vs Q E hr h=> ?_)
 ·obtain⟨fA,Ls,ps,n,st,pl,rfl,_⟩:=h
  rfl
 obtain⟨fA,Ls,ps,n,st,pl,rfl,hF,hLl,hLd,hR,hin,hst,hn,q⟩:=h
 refine⟨_,(y7 (yB (i:=2) Q1.nd rfl (Or.inl rfl) (yZ (y0 (pv 1) y3)))
   (y7 (Ql PassesOwn.never (jW (y1a (yq yS (pv 0) (yq yS (pv 2) (M8 L6 ye) (fun _ _=>rfl)) (fun _ _=>rfl)))) (yc (yl (Ll ydy ye3 ye4 jL (pv 2) (y0 (yq yS (pv 0) (yq yS (pv 2) (M8 L6 ye) (fun _ _=>rfl)) (fun _ _=>rfl)) y3)))))
   (yc (yy (qd rfl rfl z.list rfl z.reversed (pv 2)))))), ?_⟩
 refine⟨_,rfl,(by show 1≤sizeLine; decide),fun r hr'=> ?_⟩
 refine⟨fun m σ H2=>∃(c:Int) (tl:List Int),σ= [some (.ref fA),some (.int pl),some (.ref r)]∧yg H H2∧H2 r=some (.lst ((c :: tl).reverse.map V.int))∧Rch ps st c∧(∀rc,MustRow ps st c rc→MustRow ps st pl (rc ++ tl))∧tl.length + (mus n ps st c).length≤(mus n ps st pl).length∧m=(mus n ps st c).length,
  ⟨_,pl, [],rfl,yb hr' _,by rw [y6]; rfl,hR,fun rc h=>by rw [ye0]; exact h,by rw [ygr]; omega,rfl⟩, ?_⟩
 rintro m σ H2 ⟨c,tl,rfl,s2,hr2,hc,hsuf,hlen,rfl⟩
 have hcr:=M9 hst hin hc
 obtain⟨cn,hcn⟩:∃cn:Nat,c=(cn:Int):=⟨c.toNat,by omega⟩
 obtain⟨o,ho⟩:∃o,Ls[cn]? =some o:=⟨Ls[cn]'(by omega),yc4 _⟩
 have hLo:=hLd cn o ho
 rw [←hcn] at hLo
 have ato:atI (Ls.map je) c=some (je o):=by rw [hcn]; exact JF (by rw [yca,ho]; rfl)
 have hml:=Gra.mus_ok (c:=pl) hst hin
 have hmb:(mus n ps st pl).length≤n:=by
  rcases ZF (n:=(n:Int)) hml.nd fun d hd=>M9 hst hin ((hml.mem d).mp hd).rch with z | z
  ·omega
  ·rw [z]; exact yd9 _
 refine⟨_,rfl,_,rfl,1,rfl,r,_,_,_,rfl,rfl,SqL.of hr2,Z2 (bk:=c :: tl) rfl,fA,_,_,_,rfl,rfl,SqL.of (s2 _ _ hF),ato,_,rfl, ?_⟩
 cases o with
 | none=>
  refine Y0 ?_
  have e:c=st:=by
   rcases hLo with⟨_,y⟩ | ⟨d',y,_⟩
   ·exact y hc
   ·cases y
  subst e
  refine⟨_,rfl,r,_,rfl,SqL.of hr2,fun p hp=> ?_⟩
  refine q p (c :: tl) _ (s2.trans (yb hp _)) ?_ (by rw [yct]; have:=(Gra.mus_ok (c:=c) hst hin); have:0 < (mus n ps c c).length:=ygb ((this.mem c).mpr (Y4.self .here)); omega) (hsuf [c] xY)
  rw [y6,←yhm,yik]
 | some p=>
  refine yT ?_
  obtain⟨hLe,hpR⟩:Lead ps st c p∧Rch ps st p:=by
   rcases hLo with⟨y,_⟩ | ⟨d',y,_,_,hL⟩
   ·cases y
   ·cases y; exact⟨hL,hL.must.rch⟩
  have hlt:=yan hst hin hLe
  refine⟨fun σ' H'=>σ'= [some (.ref fA),some (.int pl),some (.ref r)]∧yg H H'∧H' r=some (.lst ((p :: c :: tl).reverse.map V.int)),fun σ' H' ⟨e,s',h'⟩=>⟨_,hlt,p,c :: tl,e,s',h',hpR,fun rp hrp=> ?_,by rw [yct]; omega,rfl⟩, ?_⟩
  ·have:=hsuf _ (W5 hrp hLe)
   rw [yek] at this
   exact this
  refine⟨_,rfl, .inl ⟨rfl,_,SqL.of hr2⟩,_,rfl,_,rfl,1,rfl,r,_,_,_,rfl,rfl,SqL.of hr2,Z2 (bk:=c :: tl) rfl,fA,_,_,_,rfl,rfl,SqL.of (s2 _ _ hF),ato,r,_,_,rfl,rfl,hr2,JM (by rw [yc2,yg4,yct]; omega), ?_⟩
  refine⟨rfl,YV s2 hr' _, ?_⟩
  rw [y6,yeu (a:=p),yci]; rfl
end
def Jy:Pos:=⟨59,33,59,67⟩
def Jg:Str:=("parts" :Str) ++ ".<locals>." ++ "<lambda>"
theorem y4b{H:Hp}{T:Addr}(h:H T=some (.tbl #[])):Y7 H T Jy Jg:=⟨#[],h,trivial, .inl rfl⟩
theorem Z6{α β γ:Type}{F:α→γ→Prop}{G:β→γ→Prop}:∀{as:List α} {bs:List β},Paired (fun a b=>∃c,F a c∧G b c) as bs→∃cs,Paired F as cs∧Paired G bs cs
 | _,_, .nil=>⟨[], .nil, .nil⟩
 | _,_, .cons ⟨c,h1,h2⟩ t=>by
  obtain⟨cs,t1,t2⟩:=Z6 t
  exact⟨c :: cs, .cons h1 t1, .cons h2 t2⟩
def Y2(ts:List yW):Int→List Int:=fun x=>keys (ts.getD x.toNat [])
theorem Ze{ts:List yW}{x:Nat}{t:yW}(h:ts[x]? =some t):Y2 ts (x:Int)=keys t:=by
 unfold Y2
 rw [ydm,ycc,h]; rfl
theorem y25(N:Nat)(R:Int→List Int)(x:Int):((ycd N).filter fun i:Nat=>scB R x (i:Int)).map (fun i:Nat=>V.int (0 + (i:Int)))=(Y3 N R x).map V.int:=by
 unfold Y3 YB
 rw [yi1,ydg]
 refine ydv fun i _=> ?_
 show V.int (0 + (i:Int))=V.int (i:Int)
 rw [yf2]
theorem Q8{γ:Type}{H:Hp}{f:γ→Addr}{g:γ→List Int}:∀{L:List γ},(∀i ∈ L,H (f i)=some (.lst ((g i).map V.int)))→Paired (fun q p=>H q=some (.lst (p.map V.int))) (L.map f) (L.map g)
 | [],_=> .nil
 | i :: L,h=> .cons (h i yc8) (Q8 fun j hj=>h j (yc9 _ hj))
theorem y1n(n:Nat)(R:Int→List Int):jb n R=((ycd n).filter fun i:Nat=>Ji n R (i:Int)).map fun i:Nat=>Y3 n R (i:Int):=by
 unfold jb
 rw [show(YB n).filter (Ji n R)=((ycd n).map fun k:Nat=>(k:Int)).filter (Ji n R) from rfl,yi1,ydg]
 rfl
noncomputable def rcl (n:Nat) (ps:y8) (x:Int):List Int:=(YB n).filter fun y=>@decide (Rch ps x y) (Classical.propDecidable _)
theorem ybl{n:Nat}{ps:y8}(hin:InR n ps):RK n ps (rcl n ps):=fun x h0 h1=>by
 unfold rcl
 refine⟨(ZE n).sublist yg3,fun y=> ?_⟩
 rw [yd0,YF]
 constructor
 ·intro h
  exact @of_decide_eq_true _ (Classical.propDecidable _) h.2
 ·intro h
  exact⟨M9 ⟨h0,h1⟩ hin h,@decide_eq_true _ (Classical.propDecidable _) h⟩
theorem ybw{n:Nat}{ps:y8}{R R':Int→List Int}(h:RK n ps R)(h':RK n ps R'){x:Int}(h0:0≤x)(h1:x < n):(R x).length=(R' x).length:=
 Nat.le_antisymm (length_le_of_subset (h x h0 h1).1 fun y hy=>((h' x h0 h1).2 y).mpr (((h x h0 h1).2 y).mp hy)) (length_le_of_subset (h' x h0 h1).1 fun y hy=>((h x h0 h1).2 y).mpr (((h' x h0 h1).2 y).mp hy))
theorem xx{n:Nat}{ps:y8}{R R':Int→List Int}(h:RK n ps R)(h':RK n ps R'){x:Int}(h0:0≤x)(h1:x < n):Y3 n R x=Y3 n R' x:=by
 unfold Y3
 refine yh7 fun y hy=> ?_
 have hy':=YF.mp hy
 unfold scB
 rw [decide_eq_decide.mpr (((h x h0 h1).2 y).trans ((h' x h0 h1).2 y).symm),decide_eq_decide.mpr (((h y hy'.1 hy'.2).2 x).trans ((h' y hy'.1 hy'.2).2 x).symm)]
theorem y4o{n:Nat}{ps:y8}{R R':Int→List Int}(h:RK n ps R)(h':RK n ps R'):jb n R=jb n R':=by
 unfold jb
 have e:(YB n).filter (Ji n R)=(YB n).filter (Ji n R'):=yh7 fun x hx=>by
  have hx':=YF.mp hx
  unfold Ji
  rw [xx h h' hx'.1 hx'.2]
 rw [e]
 refine ydv fun x hx=> ?_
 have hx':=YF.mp (yd0.mp hx).1
 exact xx h h' hx'.1 hx'.2
def Zp(R:Int→List Int)(p:List Int):Int:=(((R (p.headD 0)).length:Nat):Int)
noncomputable def YI (n:Nat) (ps:y8):List (List Int):=YO [] true ((jb n (rcl n ps)).map (Zp (rcl n ps))) (jb n (rcl n ps))
theorem y5h{n:Nat}{ps:y8}{R:Int→List Int}(hin:InR n ps)(h:RK n ps R):YO [] true ((jb n R).map (Zp R)) (jb n R)=YI n ps:=by
 unfold YI
 have h':=ybl hin
 have e:(jb n R).map (Zp R)=(jb n R).map (Zp (rcl n ps)):=ydv fun p hp=>by
  obtain⟨x,hx,_,hh⟩:=(Z1 h).mp hp
  unfold Zp
  have:p.headD 0=x:=by rw [yhi,hh]; rfl
  rw [this,ybw h h' hx.1 hx.2]
 rw [e,y4o h h']
def y1i:Sp:=fun vs H Q _=>∃(rA:Addr) (ds:List Addr) (ts:List yW) (x:Nat),vs= [.ref rA, .int (x:Int)]∧H rA=some (.lst (ds.map V.ref))∧Paired (fun d t=>H d=some (.dK (Yh t))) ds ts∧ds.length < 64∧x < ds.length∧
 ∀r H',yg H H'→H' r=some (.lst ((Y3 ds.length (Y2 ts) (x:Int)).map V.int))→Q (.ref r) H'
def ZL(T:Addr):Sp:=fun vs H Q _=>∃(n:Nat) (l:Addr) (ps:y8),vs= [.int (n:Int), .ref l]∧yo H l ps∧ps.length≤1000∧InR n ps∧n < 64∧Y7 H T Jy Jg∧
 ∀r (qs:List Addr) (F:List (List Int)) H',VB T H H'→Y7 H' T Jy Jg→H' r=some (.lst (qs.map V.ref))→Paired (fun q p=>H' q=some (.lst (p.map V.int))) qs F→PartsOk n ps F→F=YI n ps→Q (.ref r) H'
section
variable{P:Program}{w:World}{K:yc3}{mg:Str→Option Value}{base:Heap}{c T:Addr}
variable{fCheckL fReach fPartW fParts:Addr}{gCheckL gReach gPartW gParts:FuncData}
theorem y6c(d:DefAt K mg "part_with" JI Vn fPartW gPartW)(z:Zs mg):FnOk P w K mg base CX0 1 fPartW gPartW Vn y1i:=by
 refine d.F.ok y1w (fun vs H Q E h=> ?_) (fun cdv A outer s H vs Q E hr h=> ?_)
 ·obtain⟨rA,ds,ts,x,rfl,_⟩:=h
  rfl
 obtain⟨rA,ds,ts,x,rfl,hR,hP,hn,hx,q⟩:=h
 have hu:=Lp hr
 have hml:(ds.map V.ref).length=ds.length:=yc2 _
 have hat:∀{i:Nat} {H2:Hp},yg H H2→i < ds.length→∃(d:Addr) (t:yW),atI (ds.map V.ref) (i:Int)=some (.ref d)∧H2 d=some (.dK (Yh t))∧Y2 ts (i:Int)=keys t:=fun {i H2} s2 hi=>by
  obtain⟨t,ht,hd⟩:=paired_at hP (yc4 hi)
  exact⟨_,t,JF (by rw [yca,yc4 hi]; rfl),s2 _ _ hd,Ze ht⟩
 refine⟨_,(yc (yy (jd y0d rfl (Jk rfl z.range (y0 (yC yO rfl z.len Yn (y0 (pv 0) y3)) y3)) (fun _ _ _ _=>Vb (PW.pt (L4 (jW (Zt hu (pv 0) (yq (V5 (K:=K) rfl) (pv 2) (pv 1) (fun _ _=>rfl)))) (Vs (jW (Zt hu (pv 1) (yq (V5 (K:=K) rfl) (pv 2) (pv 0) (fun _ _=>rfl)))))))) (fun _ _ _ _=>(pv 0))))), ?_⟩
 refine⟨_,rfl,rA,_,rfl, .inl (SqL.of hR),_,rfl,(by omega),(by rw [hml]; omega),Qt (n:=((((ds.map V.ref).length:Nat):Int)).toNat) (fun i:Nat=>scB (Y2 ts) (x:Int) (i:Int)) (fun i:Nat=>V.int (0 + (i:Int))) (by omega) (fun i hi H2 s2 R hRr=> ?_) (fun i hi _ H2 s2 R hRr=>⟨_,rfl,hRr H2 (yg.refl _)⟩) (fun H2 p s2 hp=> ?_)⟩
 ·have hi':i < ds.length:=by rw [hml] at hi; omega
  obtain⟨d1,t1,a1,h1,k1⟩:=hat s2 hx
  obtain⟨d2,t2,a2,h2,k2⟩:=hat s2 hi'
  rw [yf2]
  have h3:=hRr H2 (yg.refl _)
  unfold scB at h3
  rw [k1,k2] at h3
  refine⟨_,rfl,_,rfl,_,rfl,rA,_,_,V.ref d1,rfl,rfl,SqL.of (s2 _ _ hR),a1,d1,_,rfl,JC.k (k:=Sum.inl (i:Int)) h1,_,rfl, ?_⟩
  rw [JG]
  by_cases c1:(i:Int) ∈ keys t1
  ·rw [decide_eq_true c1] at h3 ⊢
   refine yT ⟨_,rfl,_,rfl,_,rfl,rA,_,_,V.ref d2,rfl,rfl,SqL.of (s2 _ _ hR),a2,d2,_,rfl,JC.k (k:=Sum.inl (x:Int)) h2,_,rfl, ?_⟩
   rw [JG]
   exact h3
  ·rw [decide_eq_false c1] at h3 ⊢
   exact Y0 h3
 ·have eN:((((ds.map V.ref).length:Nat):Int)).toNat=ds.length:=by rw [hml]; omega
  rw [eN,y25]
  exact q p _ (s2.trans (yb hp _)) y6
set_option maxHeartbeats 0 in
theorem y6a(Fc:FunC K "parts" "parts" J3 fParts gParts c)(hC:yej base c T)(hB:base.BuiltinsAt mg T)(z:Zs mg)(y4:DefAt K mg "check_lanes" yw yh fCheckL gCheckL)(yj:FnOk P w K mg base CX0 3 fCheckL gCheckL yh YW)
  (Ym:DefAt K mg "reach" jI jn fReach gReach) (L3:FnOk P w K mg base CX0 2 fReach gReach jn Mt) (Vq:DefAt K mg "part_with" JI Vn fPartW gPartW) (y35:FnOk P w K mg base CX0 1 fPartW gPartW Vn y1i) :
  FnOk P w K mg base CX0 4 fParts gParts JJ (ZL T):=by
 refine Fc.ok (k:=3) Mh (fun vs H Q E h=> ?_) (fun A outer s H vs Q E hr h=> ?_)
 ·obtain⟨n,l,ps,rfl,_⟩:=h
  rfl
 obtain⟨n,l,ps,rfl,hL,hlen,hin,hn,hT,q⟩:=h
 refine⟨_,(y7 (yl (yd yj (hr.mono (by decide)) rfl y4.m y4.F.kp y4.b .nil yr (y0 (pv 0) (y0 (pv 1) y3))))
   (y7 (yB (i:=2) Mh.nd rfl (Or.inr rfl) (jd y6n rfl (Jk rfl z.range (y0 (pv 0) y3)) (fun _ _ _ _=>Jp) (fun _ _ _ _=>(yd L3 (hr.mono (by decide)) rfl Ym.m Ym.F.kp Ym.b .nil yr (y0 (pv 1) (y0 (pv 0) y3))))))
   (y7 (yB (i:=3) Mh.nd rfl (Or.inr rfl) (jd y6p rfl (Jk rfl z.range (y0 (pv 0) y3)) (fun _ _ _ _=>Jp) (fun _ _ _ _=>(yd y35 (hr.mono (by decide)) rfl Vq.m Vq.F.kp Vq.b .nil yr (y0 (pv 1) (y0 (pv 0) y3))))))
   (y7 (VF (i:=4) Mh.nd rfl (Or.inl rfl) y7v rfl (Jk rfl z.range (y0 (pv 0) y3)) (fun _ _ _ _=>Vb (yt Y1 (yq (V5 (K:=K) rfl) (yq (V5 (K:=K) rfl) (pv 1) (pv 0) (fun _ _=>rfl)) ye (fun _ _=>rfl)) (pv 0) (yx _))) (fun _ _ _ _=>(yq (V5 (K:=K) rfl) (pv 1) (pv 0) (fun _ _=>rfl))))
   (yc (yy (xU (K:=K) (Q0:=Jg) (j:=2) rfl rfl rfl z.sorted z.len (pv 4) y5t (y5m (y:="reached") (by decide +kernel) rfl) rfl rfl hC hB hr.depth rfl (fun _ _ _ _ _ _=>rfl)))))))), ?_⟩
 refine zm ?_
 intro R4 R3 R2 R1
 refine⟨_,rfl,_,rfl,(n:Int),l,ps,rfl,hL,hin,fun H1 s1=> ?_⟩
 have eN:(n:Int).toNat=n:=by omega
 refine⟨_,rfl,(n:Int),rfl,by omega,by omega,Qh (n:=(n:Int).toNat) (fun H b (i:Nat)=>∃t,H b=some (.dK (Yh t))∧(Reach ps (i:Int) t∧jJ ps t t.length)) (fun H1 H2 b x s ⟨t,h1,h2⟩=>⟨t,s _ _ h1,h2⟩) (by omega) (fun i hi H2 s2 R hRr=> ?_) (fun H2 rA bs s2 hrA hbs=> ?_)⟩
 ·refine⟨_,rfl,_,rfl,l,ps,(n:Int),(0 + (i:Int)),rfl,(hL.mono s1).mono s2,hlen,hin,by omega,by omega,fun dd t H3 s3 _ hd R' D=>hRr dd H3 s3 ⟨t,hd, ?_,D⟩⟩
  rw [yf2] at R'
  exact R'
 obtain⟨ts,hP,hG⟩:=Z6 hbs
 rw [eN] at hG
 have sr:=yb hrA (.lst (bs.map V.ref))
 have s02:=s1.trans (s2.trans sr)
 have hbl:bs.length=n:=by rw [Paired.len hbs,yd2]; omega
 have hP2:=Paired.mapP hP fun _ _ e=>sr _ _ e
 have hr2:(upd H2 rA (.lst (bs.map V.ref))) rA=some (.lst (bs.map V.ref)):=y6
 generalize upd H2 rA (.lst (bs.map V.ref))=H3 at s02 hP2 hr2 ⊢
 have hts:∀(x:Nat),x < n→∃t,ts[x]? =some t∧Reach ps (x:Int) t∧jJ ps t t.length:=fun x hx=>by
  obtain⟨t,h1,h2⟩:=paired_at hG (i:=x) (a:=x) (ydu hx)
  exact⟨t,h1,h2⟩
 have hRK:RK n ps (Y2 ts):=fun x h0 h1=>by
  obtain⟨xn,hxn⟩:∃xn:Nat,x=(xn:Int):=⟨x.toNat,by omega⟩
  obtain⟨t,ht,hR,hD⟩:=hts xn (by omega)
  subst hxn
  rw [Ze ht]
  exact⟨hR.nd,fun y=>(VI hR hD)⟩
 refine⟨_,rfl,(n:Int),rfl,by omega,by omega,Qh (n:=(n:Int).toNat) (fun H b (i:Nat)=>H b=some (.lst ((Y3 n (Y2 ts) (i:Int)).map V.int))) (fun H1 H2 b x s h=>s _ _ h) (by omega) (fun i hi H4 s4 R hRr=> ?_) (fun H4 aA as s4 haA has=> ?_)⟩
 ·refine⟨_,rfl,_,rfl,rA,bs,ts,i,by rw [yf2]; rfl,s4 _ _ hr2,Paired.mapP hP2 fun _ _ e=>s4 _ _ e,by omega,by omega,fun r H5 s5 h5=>hRr r H5 s5 ?_⟩
  rw [hbl] at h5
  exact h5
 rw [eN] at has
 have sa:=yb haA (.lst (as.map V.ref))
 have s35:=s4.trans sa
 have s05:=s02.trans s35
 have has5:=Paired.mapP has fun _ _ e=>sa _ _ e
 have haA5:(upd H4 aA (.lst (as.map V.ref))) aA=some (.lst (as.map V.ref)):=y6
 have hr5:=s35 _ _ hr2
 have hP5:=Paired.mapP hP2 fun _ _ e=>s35 _ _ e
 have hal:as.length=n:=by rw [Paired.len has,yd2]
 generalize upd H4 aA (.lst (as.map V.ref))=H5 at s05 has5 haA5 hr5 hP5 ⊢
 have hpart:∀{i:Nat} {H6:Hp},yg H5 H6→i < n→atI (as.map V.ref) (i:Int)=some (.ref (as.getD i 0))∧H6 (as.getD i 0)=some (.lst ((Y3 n (Y2 ts) (i:Int)).map V.int)):=fun {i H6} s6 hi=>by
  have hi':i < as.length:=by omega
  obtain⟨j,hj,hb⟩:=paired_at has5 (yc4 hi')
  rw [ydu hi] at hj
  cases hj
  have e:as.getD i 0=as[i]:=by rw [ycc,yc4 hi']; rfl
  rw [e]
  exact⟨JF (by rw [yca,yc4 hi']; rfl),s6 _ _ hb⟩
 refine⟨_,rfl,(n:Int),rfl,by omega,by omega,Qt (n:=(n:Int).toNat) (fun i:Nat=>Ji n (Y2 ts) (i:Int)) (fun i:Nat=>V.ref (as.getD i 0)) (by omega) (fun i hi H6 s6 R hRr=> ?_) (fun i hi _ H6 s6 R hRr=> ?_) (fun H6 eA s6 heA=> ?_)⟩
 ·have hi':i < n:=by omega
  obtain⟨a1,h1⟩:=hpart s6 hi'
  rw [yf2]
  obtain⟨y,hy,_⟩:=xu hRK (x:=(i:Int)) (by omega)
  have h3:=hRr H6 (yg.refl _)
  refine⟨_,rfl,_,rfl,aA,_,_,V.ref (as.getD i 0),rfl,rfl,SqL.of (s6 _ _ haA5),a1,_,_,_,V.int y,rfl,rfl,SqL.of h1,JF (j:=0) (by rw [yca,←yi7,hy]; rfl),_,rfl,rfl,_,rfl, ?_⟩
  unfold Ji at h3
  rw [hy] at h3
  by_cases cy:y=(i:Int)
  ·rw [decide_eq_true (congrArg V.int cy)]
   rw [decide_eq_true (congrArg some cy)] at h3
   exact h3
  ·rw [decide_eq_false fun e=>cy (V.int.inj e)]
   rw [decide_eq_false fun e=>cy (Option.some.inj e)] at h3
   exact h3
 ·have hi':i < n:=by omega
  obtain⟨a1,h1⟩:=hpart s6 hi'
  rw [yf2]
  exact⟨_,rfl,_,rfl,aA,_,_,V.ref (as.getD i 0),rfl,rfl,SqL.of (s6 _ _ haA5),a1,hRr H6 (yg.refl _)⟩
 rw [eN]
 have hLmem:∀x ∈ (ycd n).filter (fun i:Nat=>Ji n (Y2 ts) (i:Int)),x < n∧(Y3 n (Y2 ts) (x:Int)).head? =some (x:Int):=fun x hx=>by
  obtain⟨h1,h2⟩:=yd0.mp hx
  unfold Ji at h2
  exact⟨ycs.mp h1,of_decide_eq_true h2⟩
 have hLlen:((ycd n).filter (fun i:Nat=>Ji n (Y2 ts) (i:Int))).length≤n:=by
  have:=ydp (fun i:Nat=>Ji n (Y2 ts) (i:Int)) (ycd n)
  rwa [yd2] at this
 have honce:=y1n n (Y2 ts)
 generalize (ycd n).filter (fun i:Nat=>Ji n (Y2 ts) (i:Int))=L at hLmem hLlen honce heA ⊢
 have se:=yb heA (.lst (L.map fun i:Nat=>V.ref (as.getD i 0)))
 have s57:=s6.trans se
 have hT7:Y7 (upd H6 eA (.lst (L.map fun i:Nat=>V.ref (as.getD i 0)))) T Jy Jg:=hT.same (s05.trans s57)
 have heE:(upd H6 eA (.lst (L.map fun i:Nat=>V.ref (as.getD i 0)))) eA=some (.lst ((L.map fun i:Nat=>as.getD i 0).map V.ref)):=by rw [y6,ydg]; rfl
 generalize upd H6 eA (.lst (L.map fun i:Nat=>V.ref (as.getD i 0)))=H7 at s57 hT7 heE ⊢
 have sH:=s05.trans s57
 refine⟨_,rfl,eA,rA,L.map (fun i:Nat=>as.getD i 0),L.map (fun i:Nat=>(((Y2 ts (i:Int)).length:Nat):Int)),rfl,SqL.of heE,by rw [yc2]; omega,rfl,by rw [yc2,yc2],fun i a k ha hk=> ?_,hT7,fun as' H8 D sT hT8 hby hD=> ?_⟩
 ·rw [yca] at ha hk
  cases e:L[i]? with
  | none=>rw [e] at ha; cases ha
  | some x=>
   rw [e] at ha hk
   have ea:as.getD x 0=a:=Option.some.inj ha
   have ek:(((Y2 ts (x:Int)).length:Nat):Int)=k:=Option.some.inj hk
   obtain⟨hx,hh⟩:=hLmem x (yce e)
   obtain⟨_,hpx⟩:=hpart s57 hx
   obtain⟨t,ht,hbt⟩:=paired_at hP5 (yc4 (show x < bs.length by omega))
   rw [Ze ht] at ek
   refine⟨Y3 n (Y2 ts) (x:Int),(x:Int),bs.map V.ref,bs[x]'(by omega),Yh t,by rw [←ea]; exact SqL.of hpx,by rw [←yi7]; exact hh,by omega,SqL.of (s57 _ _ hr5),by rw [ydm,yca,yc4 (show x < bs.length by omega)]; rfl,s57 _ _ hbt, ?_⟩
   rw [←ek,QU]
   exact congrArg _ (yc2 _)
 ·have hkl:(L.map (fun i:Nat=>(((Y2 ts (i:Int)).length:Nat):Int))).length=L.length:=yc2 _
  have hperm:(YO 0 true (L.map (fun i:Nat=>(((Y2 ts (i:Int)).length:Nat):Int))) L).Perm L:=Qd hkl
  have hfall:=WK (d:=0) (key:=fun i:Nat=>(((Y2 ts (i:Int)).length:Nat):Int)) (vs:=L)
  have eas:as'=(YO 0 true (L.map (fun i:Nat=>(((Y2 ts (i:Int)).length:Nat):Int))) L).map fun i:Nat=>as.getD i 0:=by rw [hby]; exact MJ _ hkl
  have eF:(YO 0 true (L.map (fun i:Nat=>(((Y2 ts (i:Int)).length:Nat):Int))) L).map (fun i:Nat=>Y3 n (Y2 ts) (i:Int))=YI n ps:=by
   rw [←MJ (d':= []) _ hkl,←y5h hin hRK,honce]
   have ek:L.map (fun i:Nat=>(((Y2 ts (i:Int)).length:Nat):Int))=(L.map fun i:Nat=>Y3 n (Y2 ts) (i:Int)).map (Zp (Y2 ts)):=by
    rw [ydg]
    refine ydv fun x hx=> ?_
    show _=Zp (Y2 ts) (Y3 n (Y2 ts) (x:Int))
    unfold Zp
    rw [yhi,(hLmem x hx).2]; rfl
   rw [ek]
  generalize YO 0 true (L.map (fun i:Nat=>(((Y2 ts (i:Int)).length:Nat):Int))) L=L' at hperm hfall eas eF
  have hDn:∀{q:Addr} {xs:List V},H7 q=some (.lst xs)→(upd H8 D (.lst (as'.map V.ref))) q=some (.lst xs):=fun {q xs} h=>by
   have h8:H8 q=some (.lst xs):=sT q _ (fun y=>by
    obtain⟨tp,h1,_⟩:=hT7
    rw [y,h1] at h; cases h) h
   rw [yi (ym h8 hD)]; exact h8
  have hup:∀q u,H8 q=some u→(upd H8 D (.lst (as'.map V.ref))) q=some u:=fun q u h=>by rw [yi (ym h hD)]; exact h
  refine q D as' (L'.map fun i:Nat=>Y3 n (Y2 ts) (i:Int)) _ (fun b u nb h=>hup _ _ (sT b u nb (sH _ _ h))) (hT8.same hup) y6 ?_ ?_ eF
  ·rw [eas]
   refine Q8 fun i hi=> ?_
   have hi':=hLmem i (hperm.mem_iff.mp hi)
   rw [←eas]
   exact hDn (hpart s57 hi'.1).2
  ·refine y67 hRK hin ?_ ?_
   ·rw [honce]
    exact hperm.map _
   ·rw [ydx]
    refine(yep.and_mem.mp hfall).imp fun {a b} ⟨ha,hb,hab⟩ x y hx hy=> ?_
    have ha':=(hLmem a (hperm.mem_iff.mp ha)).2
    have hb':=(hLmem b (hperm.mem_iff.mp hb)).2
    rw [ha'] at hx
    rw [hb'] at hy
    have ex:=Option.some.inj hx
    have ey:=Option.some.inj hy
    rw [←ex,←ey]
    have:(((Y2 ts (b:Int)).length:Nat):Int)≤(((Y2 ts (a:Int)).length:Nat):Int):=hab
    omega
end
theorem zR{n k:Nat}{x:Int}(hx:x=(k:Int))(h:k < n):ixN n x=some k:=by
 unfold ixN
 rw [hx,if_pos (by omega),if_pos (by omega)]
 congr 1
def Kp(H H':Hp):Prop:=∀b u,(∀tp,u ≠ .tbl tp)→H b=some u→H' b=some u
theorem Kp.of{H H':Hp}(s:yg H H'):Kp H H':=fun b u _ e=>s b u e
theorem Kp.trans{H H1 H2:Hp}(a:Kp H H1)(b:Kp H1 H2):Kp H H2:=fun c u n e=>b c u n (a c u n e)
theorem Kp.t{H H':Hp}{T:Addr}{p:Pos}{q:Str}(hT:Y7 H T p q)(s:VB T H H'):Kp H H':=fun b u n e=>s b u (fun z=>by
 obtain⟨tp,h1,_⟩:=hT
 rw [z,h1] at e
 exact n tp (Option.some.inj e).symm) e
theorem Kp.lst{H H':Hp}(s:Kp H H'){b:Addr}{xs:List V}(e:H b=some (.lst xs)):H' b=some (.lst xs):=s b _ (fun _ z=>by cases z) e
theorem Kp.tup{H H':Hp}(s:Kp H H'){b:Addr}{xs:List V}(e:H b=some (.tup xs)):H' b=some (.tup xs):=s b _ (fun _ z=>by cases z) e
theorem Kp.lanes{H H':Hp}(s:Kp H H'){l:Addr}{ps:y8}(h:yo H l ps):yo H' l ps:=by
 obtain⟨as,h1,h2⟩:=h
 exact⟨as,s.lst h1,Paired.mapP h2 fun _ _ e=>s.tup e⟩
theorem yb4{A:Around}{k:Nat}(hr:Room k A):A.units + 8 < cLine:=yfl (ygv (by decide:8≤64) _) hr.units
def iz(k:Nat × Nat):Int × Int:=((k.1:Int),(k.2:Int))
theorem y4w{a b:Nat × Nat}(h:iz a=iz b):a=b:=by
 have h1:(a.1:Int)=(b.1:Int):=congrArg Prod.fst h
 have h2:(a.2:Int)=(b.2:Int):=congrArg Prod.snd h
 exact Prod.ext (by omega) (by omega)
theorem yaq{k:Nat × Nat}{S:Prs}:iz k ∈ S.map iz↔k ∈ S:=by
 rw [ycf]
 exact⟨fun⟨a,h,e⟩=>y4w e ▸ h,fun h=>⟨k,h,rfl⟩⟩
theorem QS{R:Addr→Int × Int→Prop}:∀{bs:List Addr} {ks:List (Int × Int)},Paired R bs ks→(∀z ∈ bs.zip ks,R z.1 z.2)∧(bs.zip ks).map (·.1)=bs∧(bs.zip ks).map (·.2)=ks
 | _,_, .nil=>⟨fun _ h=>(by cases h),rfl,rfl⟩
 | _,_, .cons h t=>by
  obtain⟨a,b,c⟩:=QS t
  refine⟨fun z hz=> ?_, ?_, ?_⟩
  ·rcases ycg.mp hz with e | e
   ·rw [e]; exact h
   ·exact a z e
  ·rw [List.zip_cons_cons,ycv,b]
  ·rw [List.zip_cons_cons,ycv,c]
theorem Qb{H:Hp}:∀{zs:L2.Zs},(∀z ∈ zs,H z.1=some (.tup (JR z.2)))→Paired (fun a k=>H a=some (.tup (k.map V.int))) (zs.map (·.1)) (zs.map fun z=> [z.2.1,z.2.2])
 | [],_=> .nil
 | z :: zs,h=> .cons (h z yc8) (Qb fun y hy=>h y (yc9 _ hy))
theorem yaw{zs:L2.Zs}(h:zs.Pairwise pLe)(nd:(zs.map (·.2)).Nodup):(zs.map (·.2)).Pairwise plt:=by
 rw [ydx]
 have nd':zs.Pairwise fun a b=>a.2 ≠ b.2:=ydx.mp nd
 refine(h.and nd').imp fun {a b} ⟨h1,h2⟩=> ?_
 unfold pLe plt at h1
 unfold plt
 by_cases c:a.2.1 < b.2.1
 ·exact .inl c
 ·have c1:a.2.1=b.2.1:=by omega
  refine .inr ⟨c1, ?_⟩
  by_cases c2:a.2.2=b.2.2
  ·exact absurd (Prod.ext c1 c2) h2
  ·omega
def zD(T:Addr):Sp:=fun vs H Q _=>∃(n:Nat) (l:Addr) (ps:y8),vs= [.int (n:Int), .ref l]∧yo H l ps∧ps.length≤63∧InR n ps∧n < 64∧Y7 H T Jy Jg∧
 ∀r H',Kp H H'→Y7 H' T Jy Jg→PartsOk n ps (YI n ps)→H' r=some (.lst ((qK n (YI n ps)).map V.int))→Q (.ref r) H'
def zV(T:Addr):Sp:=fun vs H Q _=>∃(n:Nat) (l:Addr) (ps:y8),vs= [.int (n:Int), .ref l]∧yo H l ps∧ps.length≤63∧InR n ps∧n < 64∧Y7 H T Jy Jg∧
 ∀r (zs:L2.Zs) H',Kp H H'→Y7 H' T Jy Jg→(∀xs,H r ≠ some (.lst xs))→PartsOk n ps (YI n ps)→H' r=some (.lst (zs.map fun z=>V.ref z.1))→(∀z ∈ zs,H' z.1=some (.tup (JR z.2)))→zs.length≤63→(zs.map (·.2)).Pairwise plt→(∀k,k ∈ zs.map (·.2)↔k ∈ (steps (YI n ps) ps).map iz)→Q (.ref r) H'
section
variable{P:Program}{w:World}{K:yc3}{mg:Str→Option Value}{base:Heap}{T:Addr}
variable{fParts fNums fBetw fRows fDepths fDeep:Addr}{gParts gNums gBetw gRows gDepths gDeep:FuncData}
set_option maxHeartbeats 0 in
theorem y9f(d:DefAt K mg "part_numbers" Yr Yl fNums gNums)(z:Zs mg)(Yk:DefAt K mg "parts" J3 JJ fParts gParts)(Vx:FnOk P w K mg base CX0 4 fParts gParts JJ (ZL T)):FnOk P w K mg base CX0 5 fNums gNums Yl (zD T):=by
 refine d.F.ok YU (fun vs H Q E h=> ?_) (fun cdv A outer s H vs Q E hr h=> ?_)
 ·obtain⟨n,l,ps,rfl,_⟩:=h
  rfl
 obtain⟨n,l,ps,rfl,hL,hlen,hin,hn,hT,q⟩:=h
 refine⟨_,(y7 (yB (i:=2) YU.nd rfl (Or.inl rfl) (yd Vx (hr.mono (by decide)) rfl Yk.m Yk.F.kp Yk.b .nil yr (y0 (pv 0) (y0 (pv 1) y3))))
   (y7 (yB (i:=3) YU.nd rfl (Or.inl rfl) (yN y5q (yZ (y0 WS y3)) (pv 0)))
   (y7 (JW PassesOwn.never rfl (y0j rfl z.enumerate (y0 (pv 2) y3)) (y3v rfl (MA (YR (i:=4) YU.nd rfl (Or.inl rfl)) (MA (YR (i:=5) YU.nd rfl (Or.inl rfl)) y13))) (yc (JW PassesOwn.never rfl (Yx (pv 5)) (YR (i:=6) YU.nd rfl (Or.inl rfl)) (yc (WP (pv 4) (Wl (pv 3) (pv 6) Qx))))))
   (yc (yy (pv 3)))))), ?_⟩
 refine QD ?_
 intro R3 R2 R1
 refine⟨_,rfl,_,rfl,n,l,ps,rfl,hL,by omega,hin,hn,hT,fun r qs F H1 s1 hT1 hr1 hP O eF=> ?_⟩
 have k1:=Kp.t hT s1
 refine⟨(by show 1≤sizeLine; decide),fun e2 he2=> ?_⟩
 have se2:=yb he2 (.lst [.non])
 refine⟨_,rfl,e2,(n:Int), [.non],rfl,rfl,y6,by omega,by omega,(by show 1 * (n:Int).toNat≤sizeLine; rw [sizeLine_eq]; omega),fun fA hfA=> ?_⟩
 have erep:(ycz (n:Int).toNat [V.non]).flatten=ycz n V.non:=by rw [ygf,ydm]
 rw [erep]
 have s3:=se2.trans (yb hfA (.lst (ycz n V.non)))
 have hfA1:H1 fA=none:=se2.free hfA
 have hF:(upd (upd H1 e2 (.lst [.non])) fA (.lst (ycz n V.non))) fA=some (.lst (ycz n V.non)):=y6
 generalize upd (upd H1 e2 (.lst [.non])) fA (.lst (ycz n V.non))=H3 at s3 hF ⊢
 have hpl:=Paired.len hP
 refine⟨_,rfl,r,rfl,⟨_,SqL.of (s3 _ _ hr1)⟩,Wo (K:=K) (a:=r) (xs:=qs.map V.ref) (fun i σ H2=>∃(v4 v5 v6:Option V),σ= [some (.int (n:Int)),some (.ref l),some (.ref r),some (.ref fA),v4,v5,v6]∧yg H1 H2∧H2 fA=some (.lst (JY V.int (ycz n V.non) (YH 0 (F.take i)))))
  ⟨none,none,none,rfl,s3,hF⟩ (fun i σ H2 _ ⟨_,_,_,_,s2,_⟩=>SqL.of (s2 _ _ hr1)) ?_ ?_⟩
 ·rintro i y σ H2 p hy ⟨v4,v5,v6,rfl,s2,hA⟩ hpn
  rw [yca] at hy
  cases hqi:qs[i]? with
  | none=>rw [hqi] at hy; cases hy
  | some b=>
   rw [hqi] at hy
   have ey:y= .ref b:=(Option.some.inj hy).symm
   subst ey
   obtain⟨part,hpi,hb⟩:=paired_at hP hqi
   have hpm:=yce hpi
   have sp:=yb hpn (.tup [.int (i:Int), .ref b])
   have hAp:=sp _ _ hA
   have s2p:=s2.trans sp
   refine⟨p,_,rfl,SqT.of y6,rfl,_,_,rfl,_,_,rfl,rfl, ?_⟩
   generalize upd H2 p (.tup [.int (i:Int), .ref b])=H4 at hAp s2p ⊢
   have hti:(F.take i).length=i:=by
    have:=(yc5.mp hpi).1
    rw [yd4]; omega
   have hnums:YH 0 (F.take (i + 1))=YH 0 (F.take i) ++ part.map (fun x=>(x,(i:Int))):=by rw [yE hpi,xC,hti,yfi]
   refine⟨_,rfl,b,rfl,⟨_,SqL.of (s2p _ _ hb)⟩,VN (K:=K) (a:=b) (xs:=part.map V.int) (fun j σ H5=>∃(v6:Option V),σ= [some (.int (n:Int)),some (.ref l),some (.ref r),some (.ref fA),some (.int (i:Int)),some (.ref b),v6]∧yg H1 H5∧H5 fA=some (.lst (JY V.int (ycz n V.non) (YH 0 (F.take i) ++ (part.take j).map fun x=>(x,(i:Int))))))
    ⟨v6,rfl,s2p,by rw [hAp]; simp⟩ (fun j σ H5 _ ⟨_,_,s5,_⟩=>SqL.of (s5 _ _ hb)) ?_ ?_⟩
   ·rintro j y σ H5 hj ⟨v6',rfl,s5,hA5⟩
    obtain⟨x,rfl,hx⟩:=Ml hj
    have hxr:=O.rg part hpm x (yce hx)
    obtain⟨xn,hxn⟩:∃xn:Nat,x=(xn:Int):=⟨x.toNat,by omega⟩
    refine⟨_,rfl,_,rfl,_,rfl,fA,_,x,xn,rfl,rfl,hA5,zR hxn (by rw [MV,yfu]; omega), ?_⟩
    refine⟨_,rfl,YV s5 hfA1 _, ?_⟩
    rw [y6,yE hx,yci,←yek]
    show some (HO.lst _)=some (HO.lst (JY V.int (ycz n V.non) (_ ++ [(x,(i:Int))])))
    rw [y0a,hxn,ydm]
   ·rintro σ H5 ⟨v6',rfl,s5,hA5⟩
    rw [yc2,yd8,←hnums] at hA5
    exact⟨_,_,_,rfl,s5,hA5⟩
 ·rintro σ H2 ⟨v4,v5,v6,rfl,s2,hA⟩
  rw [yc2,hpl,yd8,WM O yfu] at hA
  refine⟨_,rfl,q fA H2 (k1.trans (Kp.of s2)) (hT1.same s2) (eF ▸ O) ?_⟩
  rw [hA,eF]
  unfold qK
  rw [ydg]; rfl
set_option maxHeartbeats 0 in
theorem y97(d:DefAt K mg "between_parts" Yd Yu fBetw gBetw)(z:Zs mg)(yY:DefAt K mg "part_numbers" Yr Yl fNums gNums)(jH:FnOk P w K mg base CX0 5 fNums gNums Yl (zD T)):FnOk P w K mg base CX0 6 fBetw gBetw Yu (zV T):=by
 refine d.F.ok j4 (fun vs H Q E h=> ?_) (fun cdv A outer s H vs Q E hr h=> ?_)
 ·obtain⟨n,l,ps,rfl,_⟩:=h
  rfl
 obtain⟨n,l,ps,rfl,hL,hlen,hin,hn,hT,q⟩:=h
 refine⟨_,(y7 (yB (i:=2) j4.nd rfl (Or.inr rfl) (yd jH (hr.mono (by decide)) rfl yY.m yY.F.kp yY.b .nil yr (y0 (pv 0) (y0 (pv 1) y3))))
   (y7 (VF (i:=3) j4.nd rfl (Or.inl rfl) q9 rfl (Yx (pv 1)) (fun _ _ _ _=>Jp) (fun _ _ _ _=>(J4 (y0 (yq (V5 (K:=K) rfl) (pv 1) (yq (Jr (K:=K) rfl) (pv 0) ye (fun _ _=>rfl)) (fun _ _=>rfl)) (y0 (yq (V5 (K:=K) rfl) (pv 1) (yq (Jr (K:=K) rfl) (pv 0) ye (fun _ _=>rfl)) (fun _ _=>rfl)) y3)))))
   (yc (yy (yC (Qj rfl) rfl z.sorted Vu (y0 (Jj (Lf rfl (yb4 hr)) rfl z.set Mu (y0 (jd QL rfl (Yx (pv 3)) (fun _ _ _ _=>Vb (yt M0 (yq (Jr (K:=K) rfl) (pv 0) ye (fun _ _=>rfl)) (yq (Jr (K:=K) rfl) (pv 0) ye (fun _ _=>rfl)) (yx _))) (fun _ _ _ _=>(pv 0))) y3)) y3)))))), ?_⟩
 refine Vv ?_
 intro R2 R1
 refine⟨_,rfl,_,rfl,n,l,ps,rfl,hL,hlen,hin,hn,hT,fun r H1 k1 hT1 O hr1=> ?_⟩
 obtain⟨as,hl,hps⟩:=k1.lanes hL
 generalize YI n ps=F at O hr1 q
 have hml:(as.map V.ref).length=ps.length:=by rw [yc2]; exact Paired.len hps
 refine⟨_,rfl,l,rfl,⟨_,SqL.of hl⟩,Jq (K:=K) (a:=l) (xs:=as.map V.ref) (fun i ys H2=>∃bs:List Addr,ys=bs.map V.ref∧yg H1 H2∧Paired (fun a k=>H2 a=some (.tup (JR k))) bs ((ps.take i).map fun p=>iz (stp F p))) ⟨[],rfl,yg.refl _, .nil⟩ (fun i ys H2 hi ⟨bs,e,s2,hb⟩=> ?_) (by rw [hml]; exact JB (by omega)) (fun i x ys H2 hx ⟨bs,e,s2,hb⟩=> ?_) (fun ys H2 ⟨bs,e,s2,hb⟩ bk hbk=> ?_)⟩
 ·subst e
  refine⟨SqL.of (s2 _ _ hl), ?_⟩
  have:=Paired.len hb
  rw [yc2,yd4] at this
  rw [yc2]; omega
 ·subst e
  obtain⟨a,pq,rfl,hpi,ha⟩:=jO hps hx
  have hrg:=hin pq (yce hpi)
  obtain⟨x1,hx1⟩:∃x1:Nat,pq.1=(x1:Int):=⟨pq.1.toNat,by omega⟩
  obtain⟨x2,hx2⟩:∃x2:Nat,pq.2=(x2:Int):=⟨pq.2.toNat,by omega⟩
  have a1:atI ((qK n F).map V.int) pq.1=some (.int ((nm F pq.1:Nat):Int)):=by rw [hx1]; exact LN (y0y (by omega))
  have a2:atI ((qK n F).map V.int) pq.2=some (.int ((nm F pq.2:Nat):Int)):=by rw [hx2]; exact LN (y0y (by omega))
  refine VD (yT ⟨_,rfl,_,rfl,a,_,_,_,rfl,rfl,SqT.of (s2 _ _ ha),rfl,r,_,_,_,rfl,rfl,SqL.of (s2 _ _ hr1),a1,_,rfl,_,rfl,a,_,_,_,rfl,rfl,SqT.of (s2 _ _ ha),rfl,r,_,_,_,rfl,rfl,SqL.of (s2 _ _ hr1),a2,(by show 2≤sizeLine; decide),fun b hbn=>⟨bs ++ [b],by rw [yci]; rfl,s2.trans (yb hbn _), ?_⟩⟩)
  rw [yE hpi,yci]
  exact Paired.snoc (Paired.mapP hb fun c r e=>yb hbn _ _ _ e) y6
 subst e
 rw [hml,yd8] at hb
 have sb:=yb hbk (.lst (bs.map V.ref))
 have s3:=s2.trans sb
 obtain⟨z1,z2,z3⟩:=QS hb
 have hz3:∀z ∈ bs.zip (ps.map fun p=>iz (stp F p)),(upd H2 bk (.lst (bs.map V.ref))) z.1=some (.tup (JR z.2)):=fun z hz=>sb _ _ (z1 z hz)
 have hB:(upd H2 bk (.lst (bs.map V.ref))) bk=some (.lst ((bs.zip (ps.map fun p=>iz (stp F p))).map fun z=>V.ref z.1)):=by
  rw [y6]
  conv=>lhs; rw [←z2]
  rw [ydg]; rfl
 generalize upd H2 bk (.lst (bs.map V.ref))=H3 at s3 hz3 hB ⊢
 have hzl:(bs.zip (ps.map fun p=>iz (stp F p))).length=ps.length:=by
  have:=congrArg ygg z3
  rw [yc2,yc2] at this
  exact this
 generalize bs.zip (ps.map fun p=>iz (stp F p))=zs at z3 hz3 hB hzl
 refine⟨_,rfl,bk,rfl,⟨_,SqL.of hB⟩,Jq (K:=K) (a:=bk) (xs:=zs.map fun z=>V.ref z.1) (fun i ys H4=>ys=(((zs.take i).filter fun z=>decide (z.2.1 ≠ z.2.2)).map fun z=>V.ref z.1)∧H4=H3) ⟨rfl,rfl⟩ (fun i ys H4 hi ⟨e,e4⟩=> ?_) (by rw [yc2]; exact JB (by omega)) (fun i x ys H4 hx ⟨e,e4⟩=> ?_) (fun ys H4 ⟨e,e4⟩ c hc=> ?_)⟩
 ·subst e e4
  refine⟨SqL.of hB, ?_⟩
  rw [yc2]
  refine ydw (ydp _ _) ?_
  rw [yd4]; omega
 ·subst e e4
  rw [yca] at hx
  cases ez:zs[i]? with
  | none=>rw [ez] at hx; cases hx
  | some zz=>
   rw [ez] at hx
   have ex:x= .ref zz.1:=(Option.some.inj hx).symm
   subst ex
   have hzz:=hz3 zz (yce ez)
   rw [yE ez,ye7,yci]
   refine⟨_,rfl,zz.1,_,_,_,rfl,rfl,SqT.of hzz,rfl,_,rfl,zz.1,_,_,_,rfl,rfl,SqT.of hzz,rfl,rfl,_,rfl, ?_⟩
   by_cases cc:zz.2.1=zz.2.2
   ·rw [decide_eq_true (congrArg V.int cc)]
    refine Y0 ⟨?_,rfl⟩
    rw [ydb,decide_eq_false (by simp [cc])]
    simp
   ·rw [decide_eq_false fun e=>cc (V.int.inj e)]
    refine yT ⟨_,rfl, ?_,rfl⟩
    rw [ydb,decide_eq_true (show zz.2.1 ≠ zz.2.2 from cc)]
    rfl
 subst e4
 rw [yc2,yd8] at e
 subst e
 have sc:=yb hc (.lst ((zs.filter fun z=>decide (z.2.1 ≠ z.2.2)).map fun z=>V.ref z.1))
 have s5:=s3.trans sc
 have hzf:∀z ∈ zs.filter (fun z=>decide (z.2.1 ≠ z.2.2)),(upd H4 c (.lst ((zs.filter fun z=>decide (z.2.1 ≠ z.2.2)).map fun z=>V.ref z.1))) z.1=some (.tup (JR z.2)):=fun z hz=>sc _ _ (hz3 z (yd0.mp hz).1)
 have hfl:(zs.filter fun z=>decide (z.2.1 ≠ z.2.2)).length≤63:=ydw (ydp _ _) (by omega)
 have hfm:∀k,k ∈ (zs.filter fun z=>decide (z.2.1 ≠ z.2.2)).map (·.2)↔k ∈ (steps F ps).map iz:=fun k=>by
  rw [ycf,ycf]
  constructor
  ·rintro⟨zz,hz,rfl⟩
   obtain⟨h1,h2⟩:=yd0.mp hz
   have:zz.2 ∈ zs.map (·.2):=ycf.mpr ⟨zz,h1,rfl⟩
   rw [z3] at this
   obtain⟨p,hp,e⟩:=ycf.mp this
   refine⟨stp F p,M6.mpr ⟨p,hp,rfl,fun y=> ?_⟩,e⟩
   have h2':=of_decide_eq_true h2
   rw [←e] at h2'
   exact h2' (congrArg (fun x:Nat=>(x:Int)) y)
  ·rintro⟨k,hk,rfl⟩
   obtain⟨p,hp,rfl,hne⟩:=M6.mp hk
   have:iz (stp F p) ∈ zs.map (·.2):=by rw [z3]; exact ycf.mpr ⟨p,hp,rfl⟩
   obtain⟨zz,hz,e⟩:=ycf.mp this
   refine⟨zz,yd0.mpr ⟨hz,decide_eq_true fun y=>hne ?_⟩,e⟩
   have e2:zz.2=iz (stp F p):=e
   rw [e2] at y
   have y':((stp F p).1:Int)=((stp F p).2:Int):=y
   omega
 have hcl:(upd H4 c (.lst ((zs.filter fun z=>decide (z.2.1 ≠ z.2.2)).map fun z=>V.ref z.1))) c=some (.lst (((zs.filter fun z=>decide (z.2.1 ≠ z.2.2)).map (·.1)).map V.ref)):=by rw [y6,ydg]; rfl
 generalize upd H4 c (.lst ((zs.filter fun z=>decide (z.2.1 ≠ z.2.2)).map fun z=>V.ref z.1))=H5 at s5 hzf hcl ⊢
 generalize zs.filter (fun z=>decide (z.2.1 ≠ z.2.2))=zf at hzf hfl hfm hcl
 refine⟨c,zf.map (·.1),zf.map (fun z=> [z.2.1,z.2.2]),rfl,hcl,Qb hzf,by rw [yc2]; omega,fun L nd hLl hLk hLt sA hsA=> ?_⟩
 have ss:=yb hsA (J9 P w sA L)
 have hLe:(L.map fun y=>(y.2,(y.1.getD 0 0,y.1.getD 1 0))).map (fun z:Addr × Int × Int=>([z.2.1,z.2.2],z.1))=L:=by
  rw [ydg]
  refine(ydv fun y hy=> ?_).trans (List.map_id _)
  have:=(hLk y.1).mp (ycf.mpr ⟨y,hy,rfl⟩)
  obtain⟨zz,_,e⟩:=ycf.mp this
  show([y.1.getD 0 0,y.1.getD 1 0],y.2)=y
  rw [←e]
  exact Prod.ext e rfl
 have hLz:∀zz ∈ (L.map fun y=>(y.2,(y.1.getD 0 0,y.1.getD 1 0)):L2.Zs),(upd H5 sA (J9 P w sA L)) zz.1=some (.tup (JR zz.2)):=fun zz hz=>by
  obtain⟨y,hy,rfl⟩:=ycf.mp hz
  have h1:=ss _ _ (hLt y hy)
  have:=(hLk y.1).mp (ycf.mpr ⟨y,hy,rfl⟩)
  obtain⟨z0,_,e⟩:=ycf.mp this
  show(upd H5 sA (J9 P w sA L)) y.2=some (.tup (JR (y.1.getD 0 0,y.1.getD 1 0)))
  rw [h1,←e]; rfl
 have hLlen:(L.map fun y=>(y.2,(y.1.getD 0 0,y.1.getD 1 0)):L2.Zs).length=L.length:=yc2 _
 have hLk2:((L.map fun y=>(y.2,(y.1.getD 0 0,y.1.getD 1 0)):L2.Zs).map fun z=> [z.2.1,z.2.2])=L.map (·.1):=by
  have h0:=congrArg (List.map (fun y:List Int × Addr=>y.1)) hLe
  rw [ydg] at h0
  exact h0
 have hset:(upd H5 sA (J9 P w sA L)) sA=some (J9 P w sA ((L.map fun y=>(y.2,(y.1.getD 0 0,y.1.getD 1 0)):L2.Zs).map fun z:Addr × Int × Int=>([z.2.1,z.2.2],z.1))):=by rw [hLe]; exact y6
 generalize (L.map fun y=>(y.2,(y.1.getD 0 0,y.1.getD 1 0)):L2.Zs)=zl at hLz hLlen hLk2 hset
 have s6:=s5.trans ss
 rw [yc2] at hLl
 refine⟨sA,zl,rfl,hset,hLz,by omega,fun zs' hp hs l6 hl6=> ?_⟩
 have s7:=s6.trans (yb hl6 (.lst (zs'.map fun z=>V.ref z.1)))
 have inj2:∀{a b:Int × Int}, [a.1,a.2]= [b.1,b.2]→a=b:=fun {a b} e=>by
  have e1:=List.cons.inj e
  exact Prod.ext e1.1 (List.cons.inj e1.2).1
 refine q l6 zs' _ (k1.trans (Kp.of s7)) (hT1.same s7) (fun xs e=>absurd (hl6.symm.trans (s6 _ _ (k1.lst e))) (fun y=>by cases y)) O y6 (fun zz hz=>yb hl6 _ _ _ (hLz zz (hp.mem_iff.mp hz))) (by have:=hp.length_eq; omega) (yaw hs ?_) (fun k=> ?_)
 ·refine((hp.map (·.2)).nodup_iff).mpr ?_
  rw [←hLk2] at nd
  have nd':zl.Pairwise fun a b=> [a.2.1,a.2.2] ≠ [b.2.1,b.2.2]:=ydx.mp nd
  refine ydx.mpr (nd'.imp fun {a b} h e=>h ?_)
  have e':a.2=b.2:=e
  rw [e']
 ·rw [(hp.map (·.2)).mem_iff,←hfm k,ycf,ycf]
  constructor
  ·rintro⟨zz,hz,rfl⟩
   have: [zz.2.1,zz.2.2] ∈ L.map (·.1):=by rw [←hLk2]; exact ycf.mpr ⟨zz,hz,rfl⟩
   obtain⟨z0,h0,e⟩:=ycf.mp ((hLk _).mp this)
   exact⟨z0,h0,inj2 e⟩
  ·rintro⟨zz,hz,rfl⟩
   have: [zz.2.1,zz.2.2] ∈ L.map (·.1):=(hLk _).mpr (ycf.mpr ⟨zz,hz,rfl⟩)
   rw [←hLk2] at this
   obtain⟨z0,h0,e⟩:=ycf.mp this
   exact⟨z0,h0,inj2 e⟩
end
def nv(k:Nat):V:= .int (k:Int)
def kz(z:Addr × Int × Int):Nat × Nat:=(z.2.1.toNat,z.2.2.toNat)
theorem y7m{H H':Hp}{T rA:Addr}{p:Pos}{q:Str}{xs:List V}(x:Y7 H T p q)(hr:H rA=some (.lst xs))(s:VB rA H H'):Y7 H' T p q:=by
 obtain⟨ps,h1,h2,h3⟩:=x
 refine⟨ps,s _ _ (fun e=>by rw [e,hr] at h1; cases h1) h1,h2,h3.imp id ?_⟩
 rintro⟨c,e1,e2⟩
 exact⟨c,e1,s _ _ (fun e=>by rw [e,hr] at e2; cases e2) e2⟩
def yao(H:Hp)(r:Addr)(m:Nat)(W:Nat→List Nat):Prop:=∃bs:List Addr,H r=some (.lst (bs.map V.ref))∧bs.length=m∧∀j b,bs[j]? =some b→H b=some (.lst ((W j).map nv))
def Wc(T:Addr):Sp:=fun vs H Q _=>∃(n:Nat) (l:Addr) (ps:y8),vs= [.int (n:Int), .ref l]∧yo H l ps∧ps.length≤63∧InR n ps∧n < 64∧Y7 H T Jy Jg∧
 ∀r W done H',Kp H H'→Y7 H' T Jy Jg→PartsOk n ps (YI n ps)→yao H' r (YI n ps).length W→(∀k,k ∈ done↔k ∈ steps (YI n ps) ps)→Rws (steps (YI n ps) ps) done (YI n ps).length W→Q (.ref r) H'
def Wh(T:Addr):Sp:=fun vs H Q _=>∃(n:Nat) (l:Addr) (ps:y8),vs= [.int (n:Int), .ref l]∧yo H l ps∧ps.length≤63∧InR n ps∧n < 64∧Y7 H T Jy Jg∧
 ∀r D H',Kp H H'→Y7 H' T Jy Jg→Depth (steps (YI n ps) ps) D→H' r=some (.lst ((ycd (YI n ps).length).map fun j=>nv (D j)))→Q (.ref r) H'
structure DeepRow (S:Prs) (m:Nat) (R:List Nat):Prop where
 chain:∀(k a b:Nat),R[k]? =some a→R[k + 1]? =some b→(a,b) ∈ S
 none_:m=0→R= []
 rng:∀x ∈ R,x < m
 len:0 < m→∃D,Depth S D∧(∀j,j < m→D j≤R.length)∧∃i,i < m∧D i=R.length
def xy(T:Addr):Sp:=fun vs H Q _=>∃(n:Nat) (l:Addr) (ps:y8),vs= [.int (n:Int), .ref l]∧yo H l ps∧ps.length≤63∧InR n ps∧n < 64∧Y7 H T Jy Jg∧
 ∀r R H',Kp H H'→Y7 H' T Jy Jg→DeepRow (steps (YI n ps) ps) (YI n ps).length R→R.length≤63→H' r=some (.lst (R.map nv))→Q (.ref r) H'
section
variable{P:Program}{w:World}{K:yc3}{mg:Str→Option Value}{base:Heap}{T:Addr}
variable{fParts fNums fBetw fRows fDepths fDeep:Addr}{gParts gNums gBetw gRows gDepths gDeep:FuncData}
set_option maxHeartbeats 0 in
theorem yaf(d:DefAt K mg "longest_rows" Ye Y8 fRows gRows)(z:Zs mg)(Yk:DefAt K mg "parts" J3 JJ fParts gParts)(Vx:FnOk P w K mg base CX0 4 fParts gParts JJ (ZL T))(Yc:DefAt K mg "between_parts" Yd Yu fBetw gBetw)(L9:FnOk P w K mg base CX0 6 fBetw gBetw Yu (zV T)):FnOk P w K mg base CX0 7 fRows gRows Y8 (Wc T):=by
 refine d.F.ok jk (fun vs H Q E h=> ?_) (fun cdv A outer s H vs Q E hr h=> ?_)
 ·obtain⟨n,l,ps,rfl,_⟩:=h
  rfl
 obtain⟨n,l,ps,rfl,hL,hlen,hin,hn,hT,q⟩:=h
 refine⟨_,(y7 (VF (i:=2) jk.nd rfl (Or.inl rfl) Ms rfl (Jk rfl z.range (y0 (yC yO rfl z.len Yn (y0 (yd Vx (hr.mono (by decide)) rfl Yk.m Yk.F.kp Yk.b .nil yr (y0 (pv 0) (y0 (pv 1) y3))) y3)) y3)) (fun _ _ _ _=>Jp) (fun _ _ _ _=>(yZ (y0 (pv 0) y3))))
   (y7 (JW PassesOwn.never rfl (Yx (yd L9 (hr.mono (by decide)) rfl Yc.m Yc.F.kp Yc.b .nil yr (y0 (pv 0) (y0 (pv 1) y3)))) (YR (i:=3) jk.nd rfl (Or.inl rfl)) (yc (yP (yt y1z (yC yO rfl z.len Yn (y0 (yq yS (pv 2) (yq Yy (pv 3) ye (fun _ _=>rfl)) (fun _ _=>rfl)) y3)) (yC yO rfl z.len Yn (y0 (yq yS (pv 2) (yq Yy (pv 3) ye (fun _ _=>rfl)) (fun _ _=>rfl)) y3)) (yx _)) (yc (WP (yN WL (yq yS (pv 2) (yq Yy (pv 3) ye (fun _ _=>rfl)) (fun _ _=>rfl)) (yZ (y0 (yq Yy (pv 3) ye (fun _ _=>rfl)) y3))) (Wl (pv 2) (yq Yy (pv 3) ye (fun _ _=>rfl)) Qx))) yQ)))
   (yc (yy (pv 2))))), ?_⟩
 refine Vv ?_
 intro R2 R1
 refine⟨_,rfl,_,rfl,n,l,ps,rfl,hL,by omega,hin,hn,hT,fun r qs F H1 s1 hT1 hr1 hP O eF=> ?_⟩
 have k1:=Kp.t hT s1
 have hFl:=Zg O
 have hml:(qs.map V.ref).length=F.length:=by rw [yc2]; exact Paired.len hP
 have eN:((((qs.map V.ref).length:Nat):Int)).toNat=F.length:=by rw [hml]; omega
 refine⟨r,_,rfl, .inl (SqL.of hr1),_,rfl,by omega,by rw [hml]; omega,Qh (n:=((((qs.map V.ref).length:Nat):Int)).toNat) (fun H b (i:Nat)=>H b=some (.lst [nv i])) (fun H1 H2 b x s h=>s _ _ h) (by omega) (fun i hi H2 s2 R hRr=> ?_) (fun H2 rA bs s2 hrA hbs=> ?_)⟩
 ·refine⟨_,rfl,(by show 1≤sizeLine; decide),fun p hp=>hRr p _ (yb hp _) ?_⟩
  rw [y6,yf2]; rfl
 rw [eN] at hbs
 have sr:=yb hrA (.lst (bs.map V.ref))
 have s12:=s2.trans sr
 have hbl:bs.length=F.length:=by rw [Paired.len hbs,yd2]
 have hbs2:=Paired.mapP hbs fun _ _ e=>sr _ _ e
 have hr2:(upd H2 rA (.lst (bs.map V.ref))) rA=some (.lst (bs.map V.ref)):=y6
 have k02:Kp H H2:=k1.trans (Kp.of s2)
 generalize upd H2 rA (.lst (bs.map V.ref))=H3 at sr s12 hbs2 hr2 ⊢
 have k03:Kp H H3:=k1.trans (Kp.of s12)
 have hT3:=hT1.same s12
 refine⟨_,rfl,_,rfl,n,l,ps,rfl,k03.lanes hL,hlen,hin,hn,hT3,fun rB zs H4 k4 hT4 hrBn O2 hrB hz hzl hsrt hmem=> ?_⟩
 rw [←eF] at O2 hmem q
 have hr4:=k4.lst hr2
 have ziz:∀z ∈ zs,iz (kz z)=z.2∧kz z ∈ steps F ps:=fun z hz=>by
  obtain⟨k,hk,e⟩:=ycf.mp ((hmem z.2).mp (ycf.mpr ⟨z,hz,rfl⟩))
  have:kz z=k:=by
   unfold kz
   rw [←e]
   exact Prod.ext (ydm _) (ydm _)
  rw [this]; exact⟨e,hk⟩
 have up:=W7 O hin
 have hBA:rB ≠ rA:=fun e=>hrBn _ (by rw [e]; exact hr2)
 have lt:=Qy O hin
 refine⟨rB,rfl,⟨_,SqL.of hrB⟩,VN (K:=K) (a:=rB) (xs:=zs.map fun z=>V.ref z.1) (fun i σ H5=>∃(W:Nat→List Nat) (bs:List Addr) (v3:Option V),σ= [some (.int (n:Int)),some (.ref l),some (.ref rA),v3]∧VB rA H4 H5∧H5 rA=some (.lst (bs.map V.ref))∧bs.length=F.length∧(∀j b,bs[j]? =some b→b ≠ rA∧H5 b=some (.lst ((W j).map nv)))∧Rws (steps F ps) ((zs.take i).map kz) F.length W)
  ⟨fun j=> [j],bs,none,rfl,VB.refl,hr4,hbl,fun j b hb=> ?_,y4q _ _⟩ (fun i σ H5 _ ⟨_,_,_,_,s5,_⟩=>SqL.of (s5 _ _ hBA hrB)) ?_ ?_⟩
 ·obtain⟨i,hi,hbH⟩:=paired_at hbs2 hb
  obtain⟨_,_,hbH2⟩:=paired_at hbs hb
  have hj:j < F.length:=by have:=(yc5.mp hb).1; omega
  rw [ydu hj] at hi
  cases hi
  exact⟨fun e=>(by rw [e,hrA] at hbH2; cases hbH2),k4.lst hbH⟩
 ·rintro i y σ H5 hy ⟨W,bs',v3,rfl,s5,hr5,hbl5,hb5,rw5⟩
  rw [yca] at hy
  cases ezi:zs[i]? with
  | none=>rw [ezi] at hy; cases hy
  | some zz=>
   rw [ezi] at hy
   have ey:y= .ref zz.1:=(Option.some.inj hy).symm
   subst ey
   have hzm:=yce ezi
   obtain⟨eiz,hst⟩:=ziz zz hzm
   have hzt:=hz zz hzm
   obtain⟨l1,l2⟩:=lt _ hst
   have e1:zz.2.1=((kz zz).1:Int):=(congrArg Prod.fst eiz).symm
   have e2:zz.2.2=((kz zz).2:Int):=(congrArg Prod.snd eiz).symm
   have zt5:H5 zz.1=some (.tup (JR zz.2)):=s5 _ _ (fun e=>by rw [e,hr4] at hzt; cases hzt) hzt
   obtain⟨b1,hb1⟩:∃b1,bs'[(kz zz).1]? =some b1:=⟨_,yc4 (by omega)⟩
   obtain⟨b2,hb2⟩:∃b2,bs'[(kz zz).2]? =some b2:=⟨_,yc4 (by omega)⟩
   obtain⟨n1,h1⟩:=hb5 _ _ hb1
   obtain⟨n2,h2⟩:=hb5 _ _ hb2
   have at1:atI (bs'.map V.ref) zz.2.1=some (.ref b1):=by rw [e1]; exact JF (by rw [yca,hb1]; rfl)
   have at2:atI (bs'.map V.ref) zz.2.2=some (.ref b2):=by rw [e2]; exact JF (by rw [yca,hb2]; rfl)
   have htk:(zs.take (i + 1)).map kz=(zs.take i).map kz ++ [kz zz]:=by rw [yE ezi,yci]; rfl
   have hdone:∀a b,(a,b) ∈ (zs.take i).map kz→a≤(kz zz).1∧a < b∧a < F.length∧b < F.length:=fun a b h=>by
    obtain⟨z0,hz0,e0⟩:=ycf.mp h
    have hz0m:=yig hz0
    obtain⟨q1,q2⟩:=ziz z0 hz0m
    rw [e0] at q1 q2
    have q3:=lt _ q2
    refine⟨?_,up _ _ q2,q3.1,q3.2⟩
    obtain⟨j,hj⟩:=yd1.mp hz0
    have hj1:=(yc5.mp hj).1
    rw [yd4] at hj1
    rw [yhe (by omega)] at hj
    obtain⟨g1,g2⟩:=yc5.mp hj
    obtain⟨g3,g4⟩:=yc5.mp ezi
    have hpw:=yeq.mp (ydx.mp hsrt) j i g1 g3 (by omega)
    rw [g2,g4] at hpw
    have q4:z0.2.1=(a:Int):=(congrArg Prod.fst q1).symm
    unfold plt at hpw
    omega
   have hW:∀j,j < F.length→(W j).length≤j + 1:=y1c (fun a b h=>(hdone a b h).2.1) (fun p h=>(hdone p.1 p.2 h).2.2) rw5
   have rnext:=y7r hst ⟨l1,l2⟩ (up _ _ hst) (fun a b h=>(hdone a b h).1) (fun a b h=>(hdone a b h).2.1) rw5
   refine⟨_,rfl,_,rfl,zz.1,_,_,_,rfl,rfl,SqT.of zt5,rfl,rA,_,_,V.ref b2,rfl,rfl,SqL.of hr5,at2,b2,_,rfl, .inl (SqL.of h2),_,rfl,_,rfl,zz.1,_,_,_,rfl,rfl,SqT.of zt5,rfl,rA,_,_,V.ref b1,rfl,rfl,SqL.of hr5,at1,b1,_,rfl, .inl (SqL.of h1),_,_,rfl,rfl,_,rfl, ?_⟩
   refine Lj (fun cc=> ?_) (fun cc=> ?_)
   ·have hw1:=hW _ l1
    refine⟨_,rfl,_,rfl,zz.1,_,_,_,rfl,rfl,SqT.of zt5,rfl,rA,_,_,V.ref b1,rfl,rfl,SqL.of hr5,at1,_,rfl,zz.1,_,_,_,rfl,rfl,SqT.of zt5,rfl,(by show 1≤sizeLine; decide),fun e he=> ?_⟩
    have se:=yb he (.lst [V.int zz.2.2])
    refine⟨b1,e,_, [V.int zz.2.2],rfl,rfl,se _ _ h1,y6,by rw [yc2,yd5,sizeLine_eq]; omega,fun p hp=> ?_⟩
    have sp:=yb hp (.lst ((W (kz zz).1).map nv ++ [V.int zz.2.2]))
    have sx:=se.trans sp
    have hpr:p ≠ rA:=fun y=>by rw [y,se _ _ hr5] at hp; cases hp
    refine⟨_,rfl,_,rfl,zz.1,_,_,_,rfl,rfl,SqT.of (sx _ _ zt5),rfl,rA,_,zz.2.2,(kz zz).2,rfl,rfl,sx _ _ hr5,zR e2 (by rw [yc2]; omega), ?_⟩
    have esr:LU W (kz zz)=fun k=>if k=(kz zz).2 then W (kz zz).1 ++ [(kz zz).2] else W k:=by
     unfold LU
     rw [if_pos]
     have:=of_decide_eq_true cc
     rw [yc2,yc2] at this
     omega
    refine⟨LU W (kz zz),bs'.set (kz zz).2 p,_,rfl,fun b u nb e=> ?_, ?_,by rw [yfn]; exact hbl5,fun k b hk=> ?_,by rw [htk]; exact rnext⟩
    ·rw [yi nb]; exact sx _ _ (s5 b u nb e)
    ·rw [y6,List.map_set]
    ·rw [List.getElem?_set] at hk
     by_cases c:(kz zz).2=k
     ·rw [if_pos c,if_pos (by omega)] at hk
      have eb:p=b:=Option.some.inj hk
      rw [←eb,esr,yi hpr,y6]
      refine⟨hpr, ?_⟩
      show _=some (HO.lst (List.map nv (if k=(kz zz).2 then W (kz zz).1 ++ [(kz zz).2] else W k)))
      rw [if_pos c.symm,yci,e2]; rfl
     ·rw [if_neg c] at hk
      obtain⟨g1,g2⟩:=hb5 k b hk
      rw [yi g1,esr]
      refine⟨g1, ?_⟩
      show _=some (HO.lst (List.map nv (if k=(kz zz).2 then W (kz zz).1 ++ [(kz zz).2] else W k)))
      rw [if_neg (Ne.symm c)]
      exact sx _ _ g2
   ·refine⟨W,bs',_,rfl,s5,hr5,hbl5,hb5, ?_⟩
    rw [htk]
    have:LU W (kz zz)=W:=by
     unfold LU
     rw [if_neg]
     intro h
     refine cc (decide_eq_true ?_)
     rw [yc2,yc2]
     omega
    rw [this] at rnext
    exact rnext
 ·rintro σ H5 ⟨W,bs',v3,rfl,s5,hr5,hbl5,hb5,rw5⟩
  rw [yc2,yd8] at rw5
  refine⟨_,rfl,q rA W (zs.map kz) H5 (fun b u nt e=>s5 b u (fun y=> ?_) (k4 b u nt (k03 b u nt e))) (y7m hT4 hr4 s5) O2 ⟨bs',hr5,hbl5,fun j b hb=>(hb5 j b hb).2⟩ (fun k=> ?_) rw5⟩
  ·rw [y] at e
   have:=k02 _ _ nt e
   rw [hrA] at this; cases this
  ·rw [ycf]
   constructor
   ·rintro⟨zz,hzz,rfl⟩
    exact(ziz zz hzz).2
   ·intro hk
    obtain⟨zz,hzz,e⟩:=ycf.mp ((hmem (iz k)).mpr (yaq.mpr hk))
    exact⟨zz,hzz,y4w ((ziz zz hzz).1.trans e)⟩
set_option maxHeartbeats 0 in
theorem y48(d:DefAt K mg "depths" jt Vd fDepths gDepths)(z:Zs mg)(yK:DefAt K mg "longest_rows" Ye Y8 fRows gRows)(Ju:FnOk P w K mg base CX0 7 fRows gRows Y8 (Wc T)):FnOk P w K mg base CX0 8 fDepths gDepths Vd (Wh T):=by
 refine d.F.ok WG (fun vs H Q E h=> ?_) (fun cdv A outer s H vs Q E hr h=> ?_)
 ·obtain⟨n,l,ps,rfl,_⟩:=h
  rfl
 obtain⟨n,l,ps,rfl,hL,hlen,hin,hn,hT,q⟩:=h
 refine⟨_,(yc (yy (jd xi rfl (Yx (yd Ju (hr.mono (by decide)) rfl yK.m yK.F.kp yK.b .nil yr (y0 (pv 0) (y0 (pv 1) y3)))) (fun _ _ _ _=>Jp) (fun _ _ _ _=>(yC (Z3 (K:=K) rfl) rfl z.len Yn (y0 (pv 0) y3)))))), ?_⟩
 refine⟨_,rfl,_,rfl,n,l,ps,rfl,hL,hlen,hin,hn,hT,fun r W done H1 k1 hT1 O ⟨bs,hr1,hbl,hb⟩ hmem rw1=> ?_⟩
 generalize YI n ps=F at O hbl hmem rw1 q
 have hFl:=Zg O
 refine⟨r,rfl,⟨_,SqL.of hr1⟩,Jq (K:=K) (a:=r) (xs:=bs.map V.ref) (fun i ys H2=>ys=(ycd i).map (fun j=>nv (W j).length)∧H2=H1) ⟨rfl,rfl⟩ (fun i ys H2 hi ⟨e,e2⟩=> ?_) (by rw [yc2]; exact JB (by omega)) (fun i x ys H2 hx ⟨e,e2⟩=> ?_) (fun ys H2 ⟨e,e2⟩ c hc=> ?_)⟩
 ·subst e e2
  exact⟨SqL.of hr1,by rw [yc2,yd2]; exact yc6 _⟩
 ·subst e e2
  rw [yca] at hx
  cases eb:bs[i]? with
  | none=>rw [eb] at hx; cases hx
  | some b=>
   rw [eb] at hx
   have ex:x= .ref b:=(Option.some.inj hx).symm
   subst ex
   refine VD (yT ⟨_,rfl,b,_,rfl, .inl (SqL.of (hb i b eb)), ?_,rfl⟩)
   rw [yfq,yci,yc2]; rfl
 subst e e2
 have sc:=yb hc (.lst ((ycd (bs.map V.ref).length).map fun j=>nv (W j).length))
 refine q c _ _ (k1.trans (Kp.of sc)) (hT1.same sc) (xB hmem (Qy O hin) rw1) ?_
 rw [y6,yc2,hbl]
 refine congrArg (fun x=>some (HO.lst x)) (ydv fun j hj=> ?_)
 rw [if_pos (ycs.mp hj)]
set_option maxHeartbeats 0 in
theorem y2a(d:DefAt K mg "deepest" jc jF fDeep gDeep)(z:Zs mg)(yK:DefAt K mg "longest_rows" Ye Y8 fRows gRows)(Ju:FnOk P w K mg base CX0 7 fRows gRows Y8 (Wc T)):FnOk P w K mg base CX0 8 fDeep gDeep jF (xy T):=by
 refine d.F.ok xF (fun vs H Q E h=> ?_) (fun cdv A outer s H vs Q E hr h=> ?_)
 ·obtain⟨n,l,ps,rfl,_⟩:=h
  rfl
 obtain⟨n,l,ps,rfl,hL,hlen,hin,hn,hT,q⟩:=h
 refine⟨_,(yc (yy (xq (K:=K) rfl rfl rfl z.max rfl z.len (yd Ju (hr.mono (by decide)) rfl yK.m yK.F.kp yK.b .nil yr (y0 (pv 0) (y0 (pv 1) y3)))))), ?_⟩
 refine⟨_,rfl,_,rfl,n,l,ps,rfl,hL,hlen,hin,hn,hT,fun r W done H1 k1 hT1 O ⟨bs,hr1,hbl,hb⟩ hmem rw1=> ?_⟩
 generalize YI n ps=F at O hbl hmem rw1 q
 have hFl:=Zg O
 have up:=W7 O hin
 have lt:=Qy O hin
 have hls:∀j,j < F.length→((ycd F.length).map fun j=>(W j).length).getD j 0=(W j).length:=fun j hj=>by
  rw [ycc,yca,ydu hj]; rfl
 refine⟨r,bs,(ycd F.length).map fun j=>(W j).length,rfl,SqL.of hr1,fun i b hbi=>⟨_,SqL.of (hb i b hbi), ?_⟩,fun c hc=>⟨fun e=> ?_,fun i b hbi hbest=> ?_⟩⟩
 ·have hi:=(yc5.mp hbi).1
  rw [yc2,hls i (by omega)]
 ·have sc:=yb hc (.lst [])
  have h0:F.length=0:=by rw [←hbl,e]; rfl
  exact q c [] _ (k1.trans (Kp.of sc)) (hT1.same sc) ⟨fun k a b h=>(by simp at h),fun _=>rfl,fun x hx=>(by cases hx),fun h=>(by omega)⟩ (yd9 _) y6
 ·have sc:=yb hc (.lst [])
  have hi:i < F.length:=by have:=(yc5.mp hbi).1; omega
  have hle:∀j,j < F.length→(W j).length≤(W i).length:=fun j hj=>by
   have:=hbest j (by omega)
   rw [hls j hj,hls i hi] at this
   exact this
  refine q b (W i) _ (k1.trans (Kp.of sc)) (hT1.same sc) ⟨rw1.chain i hi,fun h=>by omega,rw1.rng i hi,fun _=>⟨_,xB hmem lt rw1,fun j hj=> ?_,i,hi,if_pos hi⟩⟩ ?_ (sc _ _ (hb i b hbi))
  ·show(if j < F.length then(W j).length else 1)≤_
   rw [if_pos hj]; exact hle j hj
  ·have:=y1c (fun a b h=>up a b ((hmem _).mp h)) (fun p h=>lt p ((hmem p).mp h)) rw1 i hi
   omega
end
theorem y6q(ns:List Int)(k:Nat):V7 (ns.map V.int) (some (k:Int)) none=(ns.drop k).map V.int:=by
 unfold V7
 have e1:HT.sIx (ns.map V.int).length 0 (some (k:Int))=min k (ns.map V.int).length:=HT.sIx_nat _ _ k
 have e2:HT.sIx (ns.map V.int).length (ns.map V.int).length none=(ns.map V.int).length:=rfl
 rw [e1,e2,yc2,←yhc,←yhd]
 congr 1
 rcases yiv k ns.length with c | c
 ·rw [yi6 c]
  exact yen (by rw [ydt]; exact yc6 _)
 ·rw [Nat.min_eq_right c,yex c,yex (yc6 _),List.take_nil]
def QA(ps:y8)(row:List Int)(k:Nat):Bool:=decide ((row.getD (k - 1) 0,row.getD k 0) ∈ ps)
def LJ(ps:y8)(row:List Int):Bool:=(ycd row.length).all fun k=>decide (k=0) || QA ps row k
def y8d(n:Int)(ps:y8)(row:List Int):Bool:=decide (row ≠ []) && (decide row.Nodup && ((row.all fun x=>decide (0≤x) && decide (x < n)) && LJ ps row))
theorem y56{ps:y8}{row:List Int}:LJ ps row=true↔∀k,0 < k→k < row.length→QA ps row k=true:=by
 unfold LJ
 rw [ye9]
 constructor
 ·intro h k h0 hk
  have:=h k (ycs.mpr hk)
  rw [Bool.or_eq_true] at this
  rcases this with e | e
  ·have:=of_decide_eq_true e; omega
  ·exact e
 ·intro h k hk
  rw [Bool.or_eq_true]
  by_cases c:k=0
  ·exact .inl (decide_eq_true c)
  ·exact .inr (h k (by omega) (ycs.mp hk))
def Lower(ps:y8)(m:Nat):Prop:=∃E:y8,E.Nodup∧(∀e ∈ E,e ∈ ps)∧m≤E.length
def zO:Sp:=fun vs H Q _=>∃(n:Int) (l r:Addr) (ps:y8) (row:List Int),vs= [.int n, .ref l, .ref r]∧yo H l ps∧ps.length≤75∧InR n ps∧H r=some (.lst (row.map V.int))∧row.length≤60∧Lower ps (row.length - 2)∧∀H',yg H H'→Q (.bl (y8d n ps row)) H'
theorem ybm{row ks:List Int}(nd:ks.Nodup)(mem:∀x,x ∈ ks↔x ∈ row):decide (((ks.length:Nat):Int) < ((row.length:Nat):Int))= !decide row.Nodup:=by
 have h1:ks.length≤row.length:=length_le_of_subset nd fun x hx=>(mem x).mp hx
 by_cases c:row.Nodup
 ·have h2:row.length≤ks.length:=length_le_of_subset c fun x hx=>(mem x).mpr hx
  rw [decide_eq_true c]
  exact decide_eq_false (by omega)
 ·rw [decide_eq_false c]
  refine decide_eq_true ?_
  have:ks.length ≠ row.length:=fun e=>c ?_
  ·omega
  ·have key:∀{l m:List Int},l.Nodup→(∀x,x ∈ l→x ∈ m)→m.length≤l.length→m.Nodup:=by
    intro l
    induction l with
    | nil=>intro m _ _ h; cases m with
     | nil=>exact yfd
     | cons _ _=>simp at h
    | cons a l ih=>
     intro m h s hl
     obtain⟨h1,h2⟩:=ydk.mp h
     have ha:a ∈ m:=s a yc8
     have pe:=List.perm_cons_erase ha
     have le:=yhf ha
     have pos:0 < m.length:=ygb ha
     rw [yct] at hl
     have sub:∀x,x ∈ l→x ∈ m.erase a:=fun x hx=>(yif (fun e:x=a=>h1 (by rw [←e]; exact hx))).mpr (s x (yc9 _ hx))
     have nd2:=ih h2 sub (by omega)
     have na:a ∉ m.erase a:=fun ma=>by
      have l3:=length_le_of_subset (l:=a :: l) (m:=m.erase a) (ydk.mpr ⟨h1,h2⟩) fun x hx=>by
       rcases ycg.mp hx with e | e
       ·rw [e]; exact ma
       ·exact sub x e
      rw [yct] at l3
      omega
     exact pe.nodup_iff.mpr (ydk.mpr ⟨na,nd2⟩)
   exact key nd (fun x hx=>(mem x).mp hx) (by omega)
section
variable{P:Program}{w:World}{K:yc3}{mg:Str→Option Value}{base:Heap}
variable{fAre fCheck fCheckL fUpto fAt fLanesBy fSame fWholeRow fGone fWalk fSpoilt fIsOne fLaw:Addr}{gAre gCheck gCheckL gUpto gAt gLanesBy gSame gWholeRow gGone gWalk gSpoilt gIsOne gLaw:FuncData}
theorem Wy(Lo:List (List Int × Addr)):∀(xs acc:List (List Int × Addr)),(Je Lo acc xs).length≤acc.length + xs.length
 | [],acc=>yc6 _
 | x :: xs,acc=>by
  show(Je Lo (if x.1 ∈ Lo.map (·.1) then acc else Jt acc x) xs).length≤_
  have h1:=Wy Lo xs (if x.1 ∈ Lo.map (·.1) then acc else Jt acc x)
  have h2:(if x.1 ∈ Lo.map (·.1) then acc else Jt acc x).length≤acc.length + 1:=by
   split
   ·omega
   ·exact Qp acc x
  rw [yct]
  omega
theorem y9h{H:Hp}{as:List Addr}{ps:y8}(t:Paired (fun a p=>H a=some (.tup (pr p))) as ps):Paired (fun a k=>H a=some (.tup (k.map V.int))) as (ps.map fun p=> [p.1,p.2]):=by
 induction t with
 | nil=>exact .nil
 | cons e _ ih=>exact .cons e ih
theorem y3t(d:DefAt K mg "is_walk" jq Vf fWalk gWalk)(z:Zs mg)(yX:DefAt K mg "are_places" YD YG fAre gAre)(jf:FnOk P w K mg base CX0 1 fAre gAre YG (qg K))
  (y4:DefAt K mg "check_lanes" yw yh fCheckL gCheckL) (yj:FnOk P w K mg base CX0 3 fCheckL gCheckL yh YW):FnOk P w K mg base CX0 4 fWalk gWalk Vf zO:=by
 refine d.F.ok Qn (fun vs H Q E h=> ?_) (fun cdv A outer s H vs Q E hr h=> ?_)
 ·obtain⟨n,l,r,ps,row,rfl,_⟩:=h
  rfl
 obtain⟨n,l,r,ps,row,rfl,hL,hlen,hin,hR,hrl,⟨Ed,ndE,subE,lenE⟩,q⟩:=h
 have hu:=Lp hr
 have hu8:(A.deeper (PyProof.Rows.envOfC "is_walk" (ya jq) s.heap.objs.size fWalk cdv)).units + 8 < cLine:=yfl (ygv (by decide:8≤64) _) hr.units
 refine⟨_,(y7 (yl (yd yj (hr.mono (by decide)) rfl y4.m y4.F.kp y4.b .nil yr (y0 (pv 0) (y0 (pv 1) y3))))
   (y7 (yP (PW.pt (ZZ (yt Y1 (yC yO rfl z.len Yn (y0 (pv 2) y3)) ye (yx _)) (ZZ (yt MM (yC z4 rfl z.len Yn (y0 (Jj (Md rfl) rfl z.set Mu (y0 (pv 2) y3)) y3)) (yC yO rfl z.len Yn (y0 (pv 2) y3)) (yx _)) (Zn (Vw (Jv (yd jf (hr.mono (by decide)) rfl yX.m yX.F.kp yX.b .nil yr (y0 (pv 0) (y0 (pv 2) y3))))))))) (yc (yy jy)) yQ)
   (y7 (yB (i:=3) Qn.nd rfl (Or.inl rfl) (y2e rfl rfl z.list rfl z.zip (y0 (pv 2) (y0 (LO Mo (pv 2) (LD ye) ZJ) y3))))
   (yc (yy (jv Y1 (yC z8 rfl z.len Yn (y0 (yN (y8v hu8) (Jj (Lf rfl hu8) rfl z.set Mu (y0 (pv 3) y3)) (Jj (Lf rfl hu8) rfl z.set Mu (y0 (pv 1) y3))) y3)) ye (yx _))))))), ?_⟩
 refine QD ?_
 intro R3 R2 R1
 refine⟨_,rfl,_,rfl,n,l,ps,rfl,hL,hin,fun H1 s1=> ?_⟩
 have hR1:=s1 _ _ hR
 refine⟨_,rfl,r,_,rfl, .inl (SqL.of hR1),rfl,_,rfl, ?_⟩
 unfold y8d at q
 cases row with
 | nil=>exact yT (yT (q _ s1))
 | cons x0 yU=>
  refine Y0 ?_
  have q':∀H',yg H H'→Q (.bl (decide (x0 :: yU).Nodup && (((x0 :: yU).all fun x=>decide (0≤x) && decide (x < n)) && LJ ps (x0 :: yU)))) H':=q
  generalize hrow:x0 :: yU=row at hR1 hrl lenE q' ⊢
  have hne:0 < row.length:=by rw [←hrow]; exact yei _
  refine⟨_,rfl,r,row,rfl,SqL.of hR1,by omega,fun ks nd kl mem a ha=> ?_⟩
  have sa:=yb ha (Ma P w a ks)
  refine⟨a,ks,rfl,y6,by omega,_,rfl,r,_,rfl, .inl (SqL.of (sa _ _ hR1)),_,_,rfl,rfl,_,rfl, ?_⟩
  rw [yc2,ybm nd mem]
  by_cases c1:row.Nodup
  ·rw [decide_eq_true c1] at q' ⊢
   refine Y0 ⟨_,rfl,_,rfl,n,r,row,rfl, .inl (SqL.of (sa _ _ hR1)),by omega,fun H2 s2=>⟨_,rfl, ?_⟩⟩
   have s02:=s1.trans (sa.trans s2)
   cases hall:row.all fun x=>decide (0≤x) && decide (x < n) with
   | false=>
    rw [hall] at q'
    exact yT (q' _ s02)
   | true=>
    rw [hall] at q'
    refine Y0 ?_
    have hR2:=s2 _ _ (sa _ _ hR1)
    refine⟨_,rfl,_,rfl,_,rfl,r,_,rfl,SqL.of hR2,fun c hc=> ?_⟩
    have e1:V7 (row.map V.int) (some 1) none=(row.drop 1).map V.int:=y6q row 1
    rw [e1]
    have sc:=yb hc (.lst ((row.drop 1).map V.int))
    refine⟨r,c,row,row.drop 1,rfl,SqL.of (sc _ _ hR2),SqL.of y6,by omega,fun Ts H3 p hTl s3 hp hT=> ?_⟩
    have hTl':Ts.length=row.length - 1:=by rw [hTl,ydt]; omega
    have dget:∀j,(row.drop 1).getD j 0=row.getD (j + 1) 0:=fun j=>by rw [ycc,ycc,List.getElem?_drop,Nat.add_comm]
    have pT:Paired (fun a k=>H3 a=some (.tup (k.map V.int))) Ts ((ycd Ts.length).map fun j=> [row.getD j 0,row.getD (j + 1) 0]):=by
     have gen:∀(us:List Addr) (b:Nat),(∀(j:Nat) (T:Addr),us[j]? =some T→H3 T=some (.tup [.int (row.getD (b + j) 0), .int (row.getD (b + j + 1) 0)]))→Paired (fun a k=>H3 a=some (.tup (k.map V.int))) us ((ycd us.length).map fun j=> [row.getD (b + j) 0,row.getD (b + j + 1) 0]):=by
      intro us
      induction us with
      | nil=>intro b _; exact .nil
      | cons T us ih=>
       intro b hb
       rw [yct,List.range_succ_eq_map,ycv,ydg]
       refine .cons (hb 0 T rfl) ?_
       have:=ih (b + 1) fun j U hj=>by
        have:=hb (j + 1) U (by simpa using hj)
        rw [show b + 1 + j=b + (j + 1) by omega]; exact this
       have e:(fun j=> [row.getD (b + 1 + j) 0,row.getD (b + 1 + j + 1) 0])=((fun j=> [row.getD (b + j) 0,row.getD (b + j + 1) 0]) ∘ Nat.succ):=by
        funext j
        show [row.getD (b + 1 + j) 0,row.getD (b + 1 + j + 1) 0]= [row.getD (b + (j + 1)) 0,row.getD (b + (j + 1) + 1) 0]
        rw [show b + 1 + j=b + (j + 1) by omega]
       rw [e] at this
       exact this
     have:=gen Ts 0 fun j T hj=>by
      have:=hT j T hj
      rw [dget j] at this
      rw [yfi]; exact this
     simpa using this
    have s03:=s02.trans (sc.trans s3)
    refine⟨_,rfl,p,Ts,_,rfl,hp,pT,by rw [yc2,yd2]; omega,fun La ndA llA memA tA qa hqa=> ?_⟩
    rw [yc2,yd2] at llA
    have sqa:=yb hqa (J9 P w qa La)
    obtain⟨as,hl3,hp3⟩:=(hL.mono s03).mono sqa
    refine⟨_,rfl,l,as,(ps.map fun p:Int × Int=> [p.1,p.2]),rfl,hl3,y9h hp3,by rw [yc2]; exact hlen,fun Lc ndC llC memC tC qc hqc=> ?_⟩
    have sqc:=yb hqc (J9 P w qc Lc)
    have enough:Ed.length≤Lc.length:=by
     have h1:=length_le_of_subset (l:=Ed.map fun p=> [p.1,p.2]) (m:=Lc.map (·.1)) (yep.map _ (fun a b hne e=>hne (by
      injection e with e1 e2
      injection e2 with e2 _
      exact Prod.ext e1 e2)) ndE) fun k hk=>by
       obtain⟨p,hp,rfl⟩:=ycf.mp hk
       exact(memC _).mpr (ycf.mpr ⟨p,subE p hp,rfl⟩)
     rwa [yc2,yc2] at h1
    refine⟨qa,qc,La,Lc,rfl,rfl,sqc _ _ y6,y6,fun y hy=>sqc _ _ (sqa _ _ (tA y hy)),fun y hy=>sqc _ _ (tC y hy),by omega,by omega,fun xs hxs rr hrr=> ?_⟩
    have lx:=hxs.length_eq
    have ld:(Je Lc [] xs).length≤1000:=by
     have:=Wy Lc xs []
     simp at this
     omega
    refine⟨rr,_,rfl,y6,ld,rfl, ?_⟩
    have q2:=q' _ (s03.trans (sqa.trans (sqc.trans (yb hrr (J9 P w rr (Je Lc [] xs))))))
    have e4:decide (V.int (((Je Lc [] xs).length:Nat):Int)=V.int 0)=(true && (true && LJ ps row)):=by
     have stepM:∀k:Nat,0 < k→k < row.length→(QA ps row k=true↔ [row.getD (k - 1) 0,row.getD k 0] ∈ Lc.map (·.1)):=fun k _ _=>by
      rw [memC,y58]
      unfold QA
      exact decide_eq_true_iff
     have all:Je Lc [] xs= []↔LJ ps row=true:=by
      rw [zH,y56]
      constructor
      ·rintro⟨_,h2⟩ k h0 hk
       rw [stepM k h0 hk]
       have: [row.getD (k - 1) 0,row.getD k 0] ∈ La.map (·.1):=(memA _).mpr (ycf.mpr ⟨k - 1,ycs.mpr (by omega),by rw [show k - 1 + 1=k by omega]⟩)
       obtain⟨y,hy,ey⟩:=ycf.mp this
       rw [←ey]
       exact h2 y (hxs.mem_iff.mpr hy)
      ·intro h2
       refine⟨rfl,fun y hy=> ?_⟩
       have:y.1 ∈ La.map (·.1):=ycf.mpr ⟨y,hxs.mem_iff.mp hy,rfl⟩
       obtain⟨j,hj,ej⟩:=ycf.mp ((memA _).mp this)
       have hj':=ycs.mp hj
       have:=(stepM (j + 1) (by omega) (by omega)).mp (h2 (j + 1) (by omega) (by omega))
       rw [show j + 1 - 1=j by omega] at this
       rw [←ej]
       exact this
     by_cases c:LJ ps row=true
     ·rw [c,all.mpr c]; rfl
     ·rw [ydh.mpr c]
      refine decide_eq_false fun e=>c (all.mp (yfs ?_))
      injection e with e
      omega
    rw [←e4] at q2
    exact q2
  ·rw [decide_eq_false c1] at q' ⊢
   exact yT (yT (q' _ (s1.trans sa)))
end
theorem qk:∀{l m:List Int},l.Pairwise (· < ·)→m.Pairwise (· < ·)→(∀x,x ∈ l↔x ∈ m)→l=m
 | [], [],_,_,_=>rfl
 | [],b :: m,_,_,h=>absurd ((h b).mpr yc8) (by simp)
 | a :: l, [],_,_,h=>absurd ((h a).mp yc8) (by simp)
 | a :: l,b :: m,h1,h2,h=>by
  obtain⟨p1,q1⟩:=yg8.mp h1
  obtain⟨p2,q2⟩:=yg8.mp h2
  have e:a=b:=by
   rcases ycg.mp ((h a).mp yc8) with c | c
   ·exact c
   ·rcases ycg.mp ((h b).mpr yc8) with d | d
    ·exact d.symm
    ·have:=p2 a c
     have:=p1 b d
     omega
  subst e
  rw [qk q1 q2 fun x=> ?_]
  constructor
  ·intro hx
   rcases ycg.mp ((h x).mp (yc9 _ hx)) with c | c
   ·have:=p1 x hx; omega
   ·exact c
  ·intro hx
   rcases ycg.mp ((h x).mpr (yc9 _ hx)) with c | c
   ·have:=p2 x hx; omega
   ·exact c
theorem y57{row ks S:List Int}(nd:ks.Nodup)(mem:∀x,x ∈ ks↔x ∈ row)(hp:S.Perm ks)(hs:S.Pairwise (· ≤ ·)):decide (row=S)=decide (row.Pairwise (· < ·)):=by
 have st:S.Pairwise (· < ·):=Zv hs (hp.nodup_iff.mpr nd)
 by_cases c:row.Pairwise (· < ·)
 ·rw [decide_eq_true c]
  exact decide_eq_true (qk c st fun x=>(mem x).symm.trans hp.mem_iff.symm)
 ·rw [decide_eq_false c]
  exact decide_eq_false fun e=>c (by rw [e]; exact st)
def VT(ps:y8)(row:List Int):Bool:=ps.all fun p=> !(decide (p.1 ∈ row) && !decide (p.2 ∈ row))
def y8f(n:Int)(ps:y8)(row:List Int):Bool:=decide (row.Pairwise (· < ·)) && ((row.all fun x=>decide (0≤x) && decide (x < n)) && VT ps row)
theorem y4j(qs:y8)(p:Int × Int)(row:List Int):VT (qs ++ [p]) row=(VT qs row && !(decide (p.1 ∈ row) && !decide (p.2 ∈ row))):=by
 unfold VT
 rw [List.all_append,yim,List.all_nil,Bool.and_true]
theorem y32{qs:y8}{p:Int × Int}{row:List Int}{ys:List V}{v:V}(e:(ys.length=0)=(VT qs row=true)):((if (decide (p.1 ∈ row) && !decide (p.2 ∈ row))=true then ys ++ [v] else ys).length=0)=(VT (qs ++ [p]) row=true):=by
 rw [y4j]
 by_cases c:(decide (p.1 ∈ row) && !decide (p.2 ∈ row))=true
 ·rw [if_pos c,c,ycr,yd5]
  simp
 ·rw [if_neg c,ydh.mpr c,e]
  simp
def y42:Sp:=fun vs H Q _=>∃(n:Int) (l r:Addr) (ps:y8) (row:List Int),vs= [.int n, .ref l, .ref r]∧yo H l ps∧ps.length≤1000∧InR n ps∧H r=some (.lst (row.map V.int))∧row.length≤60∧∀H',yg H H'→Q (.bl (y8f n ps row)) H'
section
variable{P:Program}{w:World}{K:yc3}{mg:Str→Option Value}{base:Heap}
variable{fAre fCheck fCheckL fUpto fAt fLanesBy fSame fWholeRow fLReach fShut fSpoilt fIsOne fLaw:Addr}{gAre gCheck gCheckL gUpto gAt gLanesBy gSame gWholeRow gLReach gShut gSpoilt gIsOne gLaw:FuncData}
theorem ya4{H2:Hp}{js:List Nat}{σ:St}{N:List V→Hp→Prop}{zs:List V}{x:Int}(h:∀b,H2 b=none→N (zs ++ [V.ref b]) (upd H2 b (.tup [.int x, .bl true]))) :
  MS (yJ js σ (some (.int x))) H2 fun b H3=>if b=true then(tTup (ML (Jc 0) (ML (tC (.bl true)) tNil))) (yJ js σ (some (.int x))) H3 fun y H4=>N (zs ++ [y]) H4 else N zs H3:=
 VD (yT ⟨_,rfl,(by show 2≤sizeLine; decide),fun b hb=>h b hb⟩)
theorem QC:∀{row ks:List Int},(ks ++ row).Nodup→JV (Yz ks) (Yz row)=Yz (ks ++ row)
 | [],ks,_=>by rw [ye0]; rfl
 | x :: row,ks,nd=>by
  have hn:x ∉ ks:=fun m=>(yel.mp nd).2.2 x m x yc8 rfl
  show JV (J2 (Yz ks) (Sum.inl x) (.bl true)) (Yz row)=_
  rw [y5u hn,QC (row:=row) (ks:=ks ++ [x]) (by rw [yek]; exact nd),yek]; rfl
theorem y5y{H2:Hp}{js:List Nat}{σ:St}{N:List V→Hp→Prop}{K:yc3}{zs:List V}{a d:Addr}{p:Int × Int}{row:List Int}(e1:(yJ js σ (some (.ref a)))[1]? =some (some (.ref d)))(ha:H2 a=some (.tup (pr p)))(hd:H2 d=some (.dK (Yz row)))
  (h:N (if (decide (p.1 ∈ row) && !decide (p.2 ∈ row))=true then zs ++ [V.ref a] else zs) H2) :
  (tAnd (tB (tDIn (tOp (Qm K) (Jc 0) (tC (.int 0))) (Jc 1))) (tB (y0m (tOp (Qm K) (Jc 0) (tC (.int 1))) (Jc 1)))) (yJ js σ (some (.ref a))) H2 fun b H3=>if b=true then(Jc 0) (yJ js σ (some (.ref a))) H3 fun y H4=>N (zs ++ [y]) H4 else N zs H3:=by
 refine⟨_,rfl,a,_,_,_,rfl,rfl,SqT.of ha,rfl,_,e1,d,_,rfl,JC.k (k:=Sum.inl p.1) hd,_,rfl, ?_⟩
 rw [Qi]
 by_cases c1:p.1 ∈ row
 ·rw [decide_eq_true c1] at h ⊢
  refine yT ⟨_,rfl,a,_,_,_,rfl,rfl,SqT.of ha,rfl,_,e1,d,_,rfl,JC.k (k:=Sum.inl p.2) hd,_,rfl, ?_⟩
  rw [Qi]
  by_cases c2:p.2 ∈ row
  ·rw [decide_eq_true c2] at h ⊢
   exact Y0 h
  ·rw [decide_eq_false c2] at h ⊢
   exact yT ⟨_,rfl,h⟩
 ·rw [decide_eq_false c1] at h ⊢
  exact Y0 (Y0 h)
theorem y9i(d:DefAt K mg "is_shut" JX Vj fShut gShut)(z:Zs mg)(yX:DefAt K mg "are_places" YD YG fAre gAre)(jf:FnOk P w K mg base CX0 1 fAre gAre YG (qg K))
  (y4:DefAt K mg "check_lanes" yw yh fCheckL gCheckL) (yj:FnOk P w K mg base CX0 3 fCheckL gCheckL yh YW):FnOk P w K mg base CX0 4 fShut gShut Vj y42:=by
 refine d.F.ok MR (fun vs H Q E h=> ?_) (fun cdv A outer s H vs Q E hr h=> ?_)
 ·obtain⟨n,l,r,ps,row,rfl,_⟩:=h
  rfl
 obtain⟨n,l,r,ps,row,rfl,hL,hlen,hin,hR,hrl,q⟩:=h
 have hu:=Lp hr
 have hu0:=Nat.lt_of_succ_lt hu
 refine⟨_,(y7 (yl (yd yj (hr.mono (by decide)) rfl y4.m y4.F.kp y4.b .nil yr (y0 (pv 0) (y0 (pv 1) y3))))
   (y7 (yP (PW.pt (ZZ (yt (yb6 hu0) (pv 2) (yC (M7 rfl) rfl z.sorted Vu (y0 (Jj (Md rfl) rfl z.set Mu (y0 (pv 2) y3)) y3)) (yx _)) (Zn (Vw (Jv (yd jf (hr.mono (by decide)) rfl yX.m yX.F.kp yX.b .nil yr (y0 (pv 0) (y0 (pv 2) y3)))))))) (yc (yy jy)) yQ)
   (y7 (yB (i:=3) MR.nd rfl (Or.inr rfl) (Jj (zQ rfl) rfl z.dict ya7 (y0 (jd y5e rfl (Yx (pv 2)) (fun _ _ _ _=>Jp) (fun _ _ _ _=>(J4 (y0 (pv 0) (y0 jy y3))))) y3)))
   (y7 (VF (i:=4) MR.nd rfl (Or.inl rfl) y52 rfl (Yx (pv 1)) (fun _ _ _ _=>Vb (PW.pt (L4 (jW (Zt hu (yq (Jr (K:=K) rfl) (pv 0) ye (fun _ _=>rfl)) (pv 1))) (Vs (jW (Zb hu (yq (Jr (K:=K) rfl) (pv 0) ye (fun _ _=>rfl)) (pv 1))))))) (fun _ _ _ _=>(pv 0)))
   (yc (yy (jv Y1 (yC yO rfl z.len Yn (y0 (pv 4) y3)) ye (yx _)))))))), ?_⟩
 refine zm ?_
 intro R4 R3 R2 R1
 refine⟨_,rfl,_,rfl,n,l,ps,rfl,hL,hin,fun H1 s1=> ?_⟩
 have hR1:=s1 _ _ hR
 refine⟨_,rfl,_,rfl,r,row,rfl,SqL.of hR1,by omega,fun ks nd kl mem a ha=> ?_⟩
 have sa:=yb ha (Ma P w a ks)
 refine⟨a,ks,rfl,y6,by omega,fun S hp hs b hb=> ?_⟩
 have sb:=sa.trans (yb hb (.lst (S.map V.int)))
 refine⟨r,b,row,S,rfl,rfl,SqL.of (sb _ _ hR1),SqL.of y6,_,rfl, ?_⟩
 show if (!decide (row=S))=true then _ else _
 rw [y57 nd mem hp hs]
 unfold y8f at q
 by_cases c1:row.Pairwise (· < ·)
 ·rw [decide_eq_true c1] at q ⊢
  refine Y0 ?_
  refine⟨_,rfl,_,rfl,n,r,row,rfl, .inl (SqL.of (sb _ _ hR1)),by omega,fun H2 s2=>⟨_,rfl, ?_⟩⟩
  have s02:=s1.trans (sb.trans s2)
  cases hall:row.all fun x=>decide (0≤x) && decide (x < n) with
  | false=>
   rw [hall] at q
   exact yT (q _ s02)
  | true=>
   rw [hall] at q
   refine Y0 ?_
   have hR2:=s02 _ _ hR
   refine⟨_,rfl,r,rfl,⟨_,SqL.of hR2⟩,Jq (K:=K) (a:=r) (xs:=row.map V.int) (fun i ys H3=>∃bs:List Addr,ys=bs.map V.ref∧yg H2 H3∧Paired (fun a kv=>H3 a=some (.tup [kV kv.1,kv.2])) bs (Yz (row.take i))) ⟨[],rfl,yg.refl _, .nil⟩ (fun i ys H3 hi ⟨bs,e,s3,hb⟩=> ?_)
    (by rw [yc2]; exact JB (by omega)) (fun i x ys H3 hx ⟨bs,e,s3,hb⟩=> ?_) (fun ys H3 ⟨bs,e,s3,hb⟩ p hpn=> ?_)⟩
   ·subst e
    refine⟨SqL.of (s3 _ _ hR2), ?_⟩
    have:=Paired.len hb
    rw [QH,yd4] at this
    rw [yc2]; omega
   ·subst e
    obtain⟨v,rfl,hv⟩:=Ml hx
    refine ya4 (N:=fun ys H3=>∃bs:List Addr,ys=bs.map V.ref∧yg H2 H3∧Paired (fun a kv=>H3 a=some (.tup [kV kv.1,kv.2])) bs (Yz (row.take (i + 1)))) fun b hbn=>⟨bs ++ [b],by rw [yci]; rfl,s3.trans (yb hbn _), ?_⟩
    rw [yE hv]
    unfold Yz
    rw [yci]
    exact Paired.snoc (Paired.mapP hb fun c r e=>yb hbn _ _ _ e) y6
   ·subst e
    rw [yc2,yd8] at hb
    have s4:=yb hpn (.lst (bs.map V.ref))
    have nd2:row.Nodup:=c1.imp fun {a b} h=>by intro e; omega
    refine⟨p,bs,Yz row,rfl,y6,Paired.mapP hb fun _ _ e=>s4 _ _ e,by rw [QH]; omega,fun d hd=> ?_⟩
    have em:JV [] (Yz row)=Yz row:=QC (row:=row) (ks:= []) (by simpa using nd2)
    rw [em]
    have s5:=s3.trans (s4.trans (yb hd (.dK (Yz row))))
    obtain⟨as,hl5,hp5⟩:=(hL.mono s02).mono s5
    have hpl:=Paired.len hp5
    have hml:(as.map V.ref).length=ps.length:=by rw [yc2]; exact hpl
    refine⟨_,rfl,l,rfl,⟨_,SqL.of hl5⟩,Jq (K:=K) (a:=l) (xs:=as.map V.ref) (fun i ys H6=>H6=(upd (upd H3 p (.lst (bs.map V.ref))) d (.dK (Yz row)))∧ys.length≤i∧((ys.length=0)=(VT (ps.take i) row=true))) ⟨rfl,yc6 _,by simp [VT]⟩ (fun i ys H6 hi ⟨e,e2,_⟩=>by rw [e]; exact⟨SqL.of hl5,e2⟩)
     (by rw [hml]; exact JB (by omega)) (fun i x ys H6 hx ⟨e,e2,e3⟩=> ?_) (fun ys H6 ⟨e,e2,e3⟩ p2 hp2=> ?_)⟩
    ·subst e
     obtain⟨a2,p2,rfl,hpi,ha2⟩:=jO hp5 hx
     refine y5y (N:=fun ys H6=>H6=(upd (upd H3 p (.lst (bs.map V.ref))) d (.dK (Yz row)))∧ys.length≤i + 1∧((ys.length=0)=(VT (ps.take (i + 1)) row=true))) rfl ha2 y6 ⟨rfl, ?_, ?_⟩
     ·split
      ·rw [ycr,yd5]; omega
      ·omega
     ·rw [yE hpi]
      exact y32 e3
    ·subst e
     refine⟨_,rfl,p2,ys,rfl, .inl (SqL.of y6),rfl, ?_⟩
     rw [hml,yd8] at e3
     have q2:=q _ (s02.trans (s5.trans (yb hp2 (.lst ys))))
     have e4:decide (V.int ((ys.length:Nat):Int)=V.int 0)=(true && (true && VT ps row)):=by
      by_cases c:ys.length=0
      ·have c':=c
       rw [e3] at c'
       rw [c',c]; rfl
      ·have c':=c
       rw [e3] at c'
       rw [ydh.mpr c']
       exact decide_eq_false fun z=>c (by injection z with z; omega)
     rw [←e4] at q2
     exact q2
 ·rw [decide_eq_false c1] at q ⊢
  exact yT (yT (q _ (s1.trans sb)))
end
def y3m:Sp:=fun vs H Q _=>∃(n:Int) (l:Addr) (ps:y8) (one other:Int),vs= [.int n, .ref l, .int one, .int other]∧yo H l ps∧ps.length≤1000∧InR n ps∧(0≤one∧one < n)∧(0≤other∧other < n)∧n < 64∧∀p H',yg H H'→Told H' p n ps one other→Q (.ref p) H'
section
variable{P:Program}{w:World}{K:yc3}{mg:Str→Option Value}{base:Heap}
variable{fCheck fCheckL fWW fWalk fUpto fAt fLanesBy fSame fLTold fLaw:Addr}{gCheck gCheckL gWW gWalk gUpto gAt gLanesBy gSame gLTold gLaw:FuncData}
theorem y9m(d:DefAt K mg "walk" Lq M1 fWalk gWalk)(y4:DefAt K mg "check_lanes" yw yh fCheckL gCheckL)(yj:FnOk P w K mg base CX0 3 fCheckL gCheckL yh YW)
  (y9:DefAt K mg "check_places" yG yk fCheck gCheck) (yp:FnOk P w K mg base CX0 2 fCheck gCheck yk (jS K)) (yD:DefAt K mg "walk_or_wall" Yv Yg fWW gWW) (YL:FnOk P w K mg base CX0 3 fWW gWW Yg Mn) :
  FnOk P w K mg base CX0 4 fWalk gWalk M1 y3m:=by
 refine d.F.ok y36 (fun vs H Q E h=> ?_) (fun cdv A outer s H vs Q E hr h=> ?_)
 ·obtain⟨n,l,ps,one,other,rfl,_⟩:=h
  rfl
 obtain⟨n,l,ps,one,other,rfl,hL,hlen,hin,h1,h2,hn,q⟩:=h
 refine⟨_,(y7 (yl (yd yj (hr.mono (by decide)) rfl y4.m y4.F.kp y4.b .nil yr (y0 (pv 0) (y0 (pv 1) y3))))
   (y7 (yl (yd yp (hr.mono (by decide)) rfl y9.m y9.F.kp y9.b .nil yr (y0 (pv 0) (y0 (yZ (y0 (pv 2) (y0 (pv 3) y3))) y3))))
   (yc (yy (yd YL (hr.mono (by decide)) rfl yD.m yD.F.kp yD.b .nil yr (y0 (pv 1) (y0 (pv 2) (y0 (pv 3) y3)))))))), ?_⟩
 refine Vv ?_
 intro R2 R1
 refine⟨_,rfl,_,rfl,n,l,ps,rfl,hL,hin,fun H1 s1=> ?_⟩
 refine⟨_,rfl,_,rfl,_,rfl,(by show 2≤sizeLine; decide),fun e he=> ?_⟩
 have se:=yb he (.lst [.int one, .int other])
 refine⟨n,e, [one,other],rfl, .inl (SqL.of y6),(by show 2≤1000; decide),fun x hx=> ?_,fun H2 s2=> ?_⟩
 ·rcases ycg.mp hx with e | hx
  ·rw [e]; exact h1
  ·rw [ycb.mp hx]; exact h2
 ·have s3:=s1.trans (se.trans s2)
  exact⟨_,rfl,_,rfl,_,rfl,l,ps,n,one,other,rfl,hL.mono s3,hlen,hin,h1,hn,fun p H' s' T=>q p H' (s3.trans s') T⟩
end
def zB(CN:Addr):Sp:=fun vs H Q E=>∃(n:Int) (l:Addr) (ps:y8) (one other gone:Int),vs= [.int n, .ref l, .int one, .int other, .int gone]∧yo H l ps∧ps.length≤1000∧InR n ps∧(0≤one∧one < n)∧(0≤other∧other < n)∧(0≤gone∧gone < n)∧n < 64∧
 (gone=one∨gone=other→∀H',yg H H'→E (.ref CN) none H')∧(¬(gone=one∨gone=other)→∀p H',yg H H'→Told H' p n (wo ps gone) one other→Q (.ref p) H')
section
variable{P:Program}{w:World}{K:yc3}{mg:Str→Option Value}{base:Heap}
variable{fCheck fCheckL fWW fWalk fUpto fAt fLanesBy fSame fLTold fLaw:Addr}{gCheck gCheckL gWW gWalk gUpto gAt gLanesBy gSame gLTold gLaw:FuncData}
theorem y4c{CNoPlace:Addr}(cNoPlace:ClsAt K mg "NoPlace" CNoPlace)(d:DefAt K mg "around" jT Ve fWalk gWalk)(y4:DefAt K mg "check_lanes" yw yh fCheckL gCheckL)(yj:FnOk P w K mg base CX0 3 fCheckL gCheckL yh YW)
  (y9:DefAt K mg "check_places" yG yk fCheck gCheck) (yp:FnOk P w K mg base CX0 2 fCheck gCheck yk (jS K)) (yD:DefAt K mg "walk_or_wall" Yv Yg fWW gWW) (YL:FnOk P w K mg base CX0 3 fWW gWW Yg Mn)
  {fWo:Addr} {gWo:FuncData} (yV:DefAt K mg "lanes_without" Yj Yt fWo gWo) (jl:FnOk P w K mg base CX0 1 fWo gWo Yt LZ) :
  FnOk P w K mg base (CXr P w) 4 fWalk gWalk Ve (zB CNoPlace):=by
 refine d.F.okX WO (fun vs H Q E h=> ?_) (fun cdv A outer s H vs Q E hr h=> ?_)
 ·obtain⟨n,l,ps,one,other,gone,rfl,_⟩:=h
  rfl
 obtain⟨n,l,ps,one,other,gone,rfl,hL,hlen,hin,h1,h2,h3,hn,qe,q⟩:=h
 refine⟨_,(y7 (yl (yd yj (hr.mono (by decide)) rfl y4.m y4.F.kp y4.b .nil yr (y0 (pv 0) (y0 (pv 1) y3))))
   (y7 (yl (yd yp (hr.mono (by decide)) rfl y9.m y9.F.kp y9.b .nil yr (y0 (pv 0) (y0 (yZ (y0 (pv 2) (y0 (pv 3) (y0 (pv 4) y3)))) y3))))
   (y7 (yP (yt y4h (pv 4) (J4 (y0 (pv 2) (y0 (pv 3) y3))) (by with_unfolding_all rfl)) (yc (MN (E:=E) yf0 cNoPlace.exc rfl cNoPlace.m rfl (y0 YQ y3) Mb)) yQ)
   (yc (yy (yd YL (hr.mono (by decide)) rfl yD.m yD.F.kp yD.b .nil yr (y0 (yd jl (hr.mono (by decide)) rfl yV.m yV.F.kp yV.b .nil yr (y0 (pv 1) (y0 (pv 4) y3))) (y0 (pv 2) (y0 (pv 3) y3))))))))), ?_⟩
 refine QD ?_
 intro R3 R2 R1
 refine⟨_,rfl,_,rfl,n,l,ps,rfl,hL,hin,fun H1 s1=> ?_⟩
 refine⟨_,rfl,_,rfl,_,rfl,_,rfl,(by show 3≤sizeLine; decide),fun e he=> ?_⟩
 have se:=yb he (.lst [.int one, .int other, .int gone])
 refine⟨n,e, [one,other,gone],rfl, .inl (SqL.of y6),(by show 3≤1000; decide),fun x hx=> ?_,fun H2 s2=> ?_⟩
 ·rcases ycg.mp hx with e | hx
  ·rw [e]; exact h1
  rcases ycg.mp hx with e | hx
  ·rw [e]; exact h2
  ·rw [ycb.mp hx]; exact h3
 ·have s3:=s1.trans (se.trans s2)
  refine⟨_,rfl,_,rfl,_,rfl,(by show 2≤sizeLine; decide),fun t ht=> ?_⟩
  have s4:=s3.trans (yb ht (.tup [.int one, .int other]))
  refine⟨t, [one,other].map V.int,rfl, .inr (SqT.of y6),rfl,xj _,_,rfl, ?_⟩
  show if inV (.int gone) ([one,other].map V.int)=true then _ else _
  rw [y1b]
  by_cases c:gone=one∨gone=other
  ·have m:gone ∈ [one,other]:=by
    rcases c with c | c
    ·rw [c]; exact yc8
    ·rw [c]; exact yc9 _ yc8
   rw [decide_eq_true m]
   exact yT ⟨(by show 1≤sizeLine; decide),qe c _ s4⟩
  ·have m:gone ∉ [one,other]:=fun m=>by
    rcases ycg.mp m with e | m
    ·exact c (.inl e)
    ·exact c (.inr (ycb.mp m))
   rw [decide_eq_false m]
   refine Y0 ⟨_,rfl,_,rfl,l,ps,gone,rfl,hL.mono s4,hlen,fun l2 H3 s5 hL3=> ?_⟩
   have hw:=ql ps gone
   exact⟨_,rfl,_,rfl,l2,wo ps gone,n,one,other,rfl,hL3,by omega,QJ hin,h1,hn,fun p H' s' T=>q c p H' (s4.trans (s5.trans s')) T⟩
end
def Trip(H:Hp)(p:Addr)(n:Int)(ps:y8)(one other:Int):Prop:=
 (∃(r1 r2:Addr) (x1 x2:List Int),H p=some (.tup [.str "round", .ref r1, .ref r2])∧Ly H r1 x1∧Ly H r2 x2∧WalkOk ps x1 one other∧WalkOk ps x2 other one)∨
 (∃(r:Addr) (x:List Int),H p=some (.tup [.str "there", .ref r])∧Ly H r x∧WallOk n ps x one other)∨
 (∃(r:Addr) (x:List Int),H p=some (.tup [.str "back", .ref r])∧Ly H r x∧WallOk n ps x other one∧Rch ps one other)
def y3n:Sp:=fun vs H Q _=>∃(n:Int) (l:Addr) (ps:y8) (one other:Int),vs= [.int n, .ref l, .int one, .int other]∧yo H l ps∧ps.length≤1000∧InR n ps∧(0≤one∧one < n)∧(0≤other∧other < n)∧n < 64∧∀p H',yg H H'→Trip H' p n ps one other→Q (.ref p) H'
section
variable{P:Program}{w:World}{K:yc3}{mg:Str→Option Value}{base:Heap}
variable{fCheck fCheckL fWW fTrip fUpto fAt fLanesBy fSame fWholeRow fLWalks fLBars fLReach fLaw:Addr}{gCheck gCheckL gWW gTrip gUpto gAt gLanesBy gSame gWholeRow gLWalks gLBars gLReach gLaw:FuncData}
theorem yai(d:DefAt K mg "round_trip" Jh JL fTrip gTrip)(y4:DefAt K mg "check_lanes" yw yh fCheckL gCheckL)(yj:FnOk P w K mg base CX0 3 fCheckL gCheckL yh YW)
  (y9:DefAt K mg "check_places" yG yk fCheck gCheck) (yp:FnOk P w K mg base CX0 2 fCheck gCheck yk (jS K)) (yD:DefAt K mg "walk_or_wall" Yv Yg fWW gWW) (YL:FnOk P w K mg base CX0 3 fWW gWW Yg Mn) :
  FnOk P w K mg base CX0 4 fTrip gTrip JL y3n:=by
 refine d.F.ok VY (fun vs H Q E h=> ?_) (fun cdv A outer s H vs Q E hr h=> ?_)
 ·obtain⟨n,l,ps,one,other,rfl,_⟩:=h
  rfl
 obtain⟨n,l,ps,one,other,rfl,hL,hlen,hin,h1,h2,hn,q⟩:=h
 refine⟨_,(y7 (yl (yd yj (hr.mono (by decide)) rfl y4.m y4.F.kp y4.b .nil yr (y0 (pv 0) (y0 (pv 1) y3))))
   (y7 (yl (yd yp (hr.mono (by decide)) rfl y9.m y9.F.kp y9.b .nil yr (y0 (pv 0) (y0 (yZ (y0 (pv 2) (y0 (pv 3) y3))) y3))))
   (y7 (yB (i:=4) VY.nd rfl (Or.inl rfl) (yd YL (hr.mono (by decide)) rfl yD.m yD.F.kp yD.b .nil yr (y0 (pv 1) (y0 (pv 2) (y0 (pv 3) y3)))))
   (y7 (yP (yt Y1 (yq Yy (pv 4) ye (fun _ _=>rfl)) YQ (yx _)) (yc (yy (J4 (y0 YQ (y0 (yq Yy (pv 4) ye (fun _ _=>rfl)) y3))))) yQ)
   (y7 (yB (i:=5) VY.nd rfl (Or.inl rfl) (yd YL (hr.mono (by decide)) rfl yD.m yD.F.kp yD.b .nil yr (y0 (pv 1) (y0 (pv 3) (y0 (pv 2) y3)))))
   (y7 (yP (yt Y1 (yq Yy (pv 5) ye (fun _ _=>rfl)) YQ (yx _)) (yc (yy (J4 (y0 YQ (y0 (yq Yy (pv 5) ye (fun _ _=>rfl)) y3))))) yQ)
   (yc (yy (J4 (y0 YQ (y0 (yq Yy (pv 4) ye (fun _ _=>rfl)) (y0 (yq Yy (pv 5) ye (fun _ _=>rfl)) y3)))))))))))), ?_⟩
 refine hide7 ?_
 intro R6 R5 R4 R3 R2 R1
 refine⟨_,rfl,_,rfl,n,l,ps,rfl,hL,hin,fun H1 s1=> ?_⟩
 refine⟨_,rfl,_,rfl,_,rfl,(by show 2≤sizeLine; decide),fun e he=> ?_⟩
 have se:=yb he (.lst [.int one, .int other])
 refine⟨n,e, [one,other],rfl, .inl (SqL.of y6),(by show 2≤1000; decide),fun x hx=> ?_,fun H2 s2=> ?_⟩
 ·rcases ycg.mp hx with e | hx
  ·rw [e]; exact h1
  ·rw [ycb.mp hx]; exact h2
 have s3:=s1.trans (se.trans s2)
 refine⟨_,rfl,_,rfl,_,rfl,l,ps,n,one,other,rfl,hL.mono s3,hlen,hin,h1,hn,fun p H3 s4 T=> ?_⟩
 obtain⟨w0,r,row,hp,hrow,hrl,hW⟩:=T
 have s04:=s3.trans s4
 refine⟨_,rfl,p,_,_,_,rfl,rfl,SqT.of hp,rfl,rfl,_,rfl, ?_⟩
 rcases hW with⟨rfl,W⟩ | ⟨rfl,W⟩
 ·refine Y0 ?_
  refine⟨_,rfl,_,rfl,_,rfl,l,ps,n,other,one,rfl,hL.mono s04,hlen,hin,h2,hn,fun p2 H4 s5 T2=> ?_⟩
  obtain⟨w1,r2,row2,hp2,hrow2,hrl2,hW2⟩:=T2
  have s05:=s04.trans s5
  refine⟨_,rfl,p2,_,_,_,rfl,rfl,SqT.of hp2,rfl,rfl,_,rfl, ?_⟩
  rcases hW2 with⟨rfl,W2⟩ | ⟨rfl,W2⟩
  ·refine Y0 ?_
   refine⟨_,rfl,p,_,_,_,rfl,rfl,SqT.of (s5 _ _ hp),rfl,_,rfl,p2,_,_,_,rfl,rfl,SqT.of hp2,rfl,(by show 3≤sizeLine; decide),fun b hb=> ?_⟩
   have sb:=yb hb (.tup [.str "round", .ref r, .ref r2])
   exact q b _ (s05.trans sb) (.inl ⟨r,r2,row,row2,y6,⟨sb _ _ (s5 _ _ hrow),hrl⟩,⟨sb _ _ hrow2,hrl2⟩,W,W2⟩)
  ·refine yT ?_
   refine⟨_,rfl,p2,_,_,_,rfl,rfl,SqT.of hp2,rfl,(by show 2≤sizeLine; decide),fun b hb=> ?_⟩
   have sb:=yb hb (.tup [.str "back", .ref r2])
   exact q b _ (s05.trans sb) (.inr (.inr ⟨r2,row2,y6,⟨sb _ _ hrow2,hrl2⟩,W2,Qe W⟩))
 ·refine yT ?_
  refine⟨_,rfl,p,_,_,_,rfl,rfl,SqT.of hp,rfl,(by show 2≤sizeLine; decide),fun b hb=> ?_⟩
  have sb:=yb hb (.tup [.str "there", .ref r])
  exact q b _ (s04.trans sb) (.inr (.inl ⟨r,row,y6,⟨sb _ _ hrow,hrl⟩,W⟩))
end
def zA(CN:Addr):Sp:=fun vs H Q E=>∃(n:Nat) (l:Addr) (ps:y8) (st pl:Int),vs= [.int (n:Int), .ref l, .int st, .int pl]∧yo H l ps∧ps.length≤1000∧InR n ps∧(0≤st∧st < n)∧(0≤pl∧pl < n)∧n < 64∧
 (¬Rch ps st pl→∀H',yg H H'→E (.ref CN) none H')∧(Rch ps st pl→∀r row H',yg H H'→H' r=some (.lst (row.map V.int))→row.length≤64→MustRow ps st pl row→Q (.ref r) H')
section
variable{P:Program}{w:World}{K:yc3}{mg:Str→Option Value}{base:Heap}{T:Addr}
variable{fCheck fRow fMustsP fAny fUpto fAt fLanesBy fSame fWholeRow fLead fMusts fLaw:Addr}{gCheck gRow gMustsP gAny gUpto gAt gLanesBy gSame gWholeRow gLead gMusts gLaw:FuncData}
theorem y4l{CNoWay:Addr}(cNoWay:ClsAt K mg "NoWay" CNoWay)(d:DefAt K mg "musts" Vy L5 fMustsP gMustsP)(y9:DefAt K mg "check_places" yG yk fCheck gCheck)(yp:FnOk P w K mg base CX0 2 fCheck gCheck yk (jS K))
  (Yo:DefAt K mg "leaders" Js Ja fLead gLead) (LH:FnOk P w K mg base CX0 4 fLead gLead Ja Zj) (J8:DefAt K mg "row_to" jM jj fRow gRow) (Zz:FnOk P w K mg base CX0 1 fRow gRow jj y31) :
  FnOk P w K mg base (CXr P w) 5 fMustsP gMustsP L5 (zA CNoWay):=by
 refine d.F.okX Q2 (fun vs H Q E h=> ?_) (fun cdv A outer s H vs Q E hr h=> ?_)
 ·obtain⟨n,l,ps,st,pl,rfl,_⟩:=h
  rfl
 obtain⟨n,l,ps,st,pl,rfl,hL,hlen,hin,hst,hpl,hn,qe,q⟩:=h
 refine⟨_,(y7 (yl (yd yp (hr.mono (by decide)) rfl y9.m y9.F.kp y9.b .nil yr (y0 (pv 0) (y0 (yZ (y0 (pv 3) y3)) y3))))
   (y7 (yB (i:=4) Q2.nd rfl (Or.inl rfl) (yd LH (hr.mono (by decide)) rfl Yo.m Yo.F.kp Yo.b .nil yr (y0 (pv 0) (y0 (pv 1) (y0 (pv 2) y3)))))
   (y7 (yP (PW.pt (L4 (yt M0 (pv 3) (pv 2) (yx _)) (Vs (jW (yb5 (yq yS (pv 4) (pv 3) (fun _ _=>rfl))))))) (yc (MN (E:=E) yf0 cNoWay.exc rfl cNoWay.m rfl (y0 YQ y3) Mb)) yQ)
   (yc (yy (yd Zz (hr.mono (by decide)) rfl J8.m J8.F.kp J8.b .nil yr (y0 (pv 4) (y0 (pv 3) y3)))))))), ?_⟩
 refine QD ?_
 intro R3 R2 R1
 refine⟨_,rfl,_,rfl,(by show 1≤sizeLine; decide),fun e he=> ?_⟩
 have se:=yb he (.lst [.int pl])
 refine⟨(n:Int),e, [pl],rfl, .inl (SqL.of y6),(by show 1≤1000; decide),fun x hx=> ?_,fun H1 s1=> ?_⟩
 ·rw [ycb.mp hx]; exact hpl
 have s01:=se.trans s1
 refine⟨_,rfl,_,rfl,_,rfl,(n:Int),l,ps,st,rfl,hL.mono s01,hlen,hin,hst,by omega,fun fA Ls H2 s2 hF hLl hLd=> ?_⟩
 have s02:=s01.trans s2
 rw [ydm] at hLl
 obtain⟨pn,hpn⟩:∃pn:Nat,pl=(pn:Int):=⟨pl.toNat,by omega⟩
 obtain⟨o,ho⟩:∃o,Ls[pn]? =some o:=⟨Ls[pn]'(by omega),yc4 _⟩
 have hLo:=hLd pn o ho
 rw [←hpn] at hLo
 have ato:atI (Ls.map je) pl=some (je o):=by rw [hpn]; exact JF (by rw [yca,ho]; rfl)
 have fin:Rch ps st pl→∃(fA':Addr) (Ls':List (Option Int)) (ps':y8) (n':Nat) (st' pl':Int), [V.ref fA,V.int pl]= [.ref fA', .int pl']∧H2 fA'=some (.lst (Ls'.map je))∧Ls'.length=n'∧(∀(x:Nat) (o:Option Int),Ls'[x]? =some o→QK ps' st' (x:Int) o)∧Rch ps' st' pl'∧InR n' ps'∧(0≤st'∧st' < n')∧n' < 64∧
   ∀r row H',yg H2 H'→H' r=some (.lst (row.map V.int))→row.length≤64→MustRow ps' st' pl' row→Q (.ref r) H':=fun hR=>⟨fA,Ls,ps,n,st,pl,rfl,hF,hLl,hLd,hR,hin,hst,hn,fun r row H' s' h1 h2 h3=>q hR r row H' (s02.trans s') h1 h2 h3⟩
 refine⟨_,rfl,_,rfl,rfl,_,rfl, ?_⟩
 by_cases c:pl=st
 ·rw [decide_eq_true (congrArg V.int c)]
  exact Y0 (Y0 ⟨_,rfl,_,rfl,fin (by rw [c]; exact .here)⟩)
 ·rw [decide_eq_false fun y=>c (V.int.inj y)]
  refine yT ⟨_,rfl,_,rfl,fA,_,_,_,rfl,rfl,SqL.of hF,ato,_,rfl, ?_⟩
  cases o with
  | none=>
   have nR:¬Rch ps st pl:=fun y=>by
    rcases hLo with⟨_,w'⟩ | ⟨d',w',_⟩
    ·exact c (w' y)
    ·cases w'
   exact yT ⟨(by show 1≤sizeLine; decide),qe nR _ s02⟩
  | some p=>
   have hR:Rch ps st pl:=by
    rcases hLo with⟨y,_⟩ | ⟨d',y,hr',_⟩
    ·cases y
    ·exact hr'
   exact Y0 ⟨_,rfl,_,rfl,fin hR⟩
end
def y8g(H:Hp)(p:Addr)(n:Int)(ps:y8)(one other:Int):Prop:=∃(w:Str) (r:Addr) (row:List Int),H p=some (.tup [.str w, .ref r])∧H r=some (.lst (row.map V.int))∧row.length≤500∧
 ((w="ring"∧WalkOk ps row one other)∨(w="wall"∧WallOk n ps row one other))
section
variable{P:Program}{w:World}{K:yc3}{mg:Str→Option Value}{base:Heap}
variable{fWhole fWholeRow fLWalks fLBars fLTold:Addr}{gWhole gWholeRow gLWalks gLBars gLTold:FuncData}
end
def qQ(n:Nat):List Int:=(ycd n).map fun k=>((k:Nat):Int)
theorem Qc{α β:Type}{F:α→β→Prop}:∀{as:List α} {ps:List β} (k:Nat),Paired F as ps→Paired F (as.take k) (ps.take k)
 | _,_,0,_=> .nil
 | _,_,k + 1, .nil=> .nil
 | _,_,k + 1, .cons e t=> .cons e (Qc k t)
theorem Q9{α β:Type}{F:α→β→Prop}:∀{as:List α} {ps:List β} (k:Nat),Paired F as ps→Paired F (as.drop k) (ps.drop k)
 | _,_,0,t=>t
 | _,_,k + 1, .nil=> .nil
 | _,_,k + 1, .cons e t=>Q9 k t
theorem ybz{n:Int}{ps:y8}{k:Nat}(h:InR n ps):InR n (wok ps k):=fun p hp=>h p (y9z p hp)
theorem y3y{H:Hp}{l:Addr}{as:List Addr}{ps:y8}{k:Nat}(hp:Paired (fun a p=>H a=some (.tup (pr p))) as ps)(hl:H l=some (.lst ((as.map V.ref).take k ++ (as.map V.ref).drop (k + 1)))):yo H l (wok ps k):=
 ⟨as.take k ++ as.drop (k + 1),by rw [hl,yci,yhd,yhc],L8 (Qc k hp) (Q9 (k + 1) hp)⟩
def qb:Sp:=fun vs H Q _=>∃(l:Addr) (ps:y8) (n:Int) (k:Nat) (p:Int × Int),vs= [.ref l, .int (k:Int)]∧yo H l ps∧ps.length≤300∧InR n ps∧ps[k]? =some p∧n < 64∧
 ∀r H',yg H H'→y8g H' r n (bw (wok ps k)) p.1 p.2→Q (.ref r) H'
def nV(k:Nat):V:= .int (k:Int)
def y0t:Sp:=fun vs H Q _=>∃(l:Addr) (ps:y8) (n:Nat),vs= [.int (n:Int), .ref l]∧yo H l ps∧ps.length≤300∧InR n ps∧n < 64∧
 ∀r (ks:List Nat) H',yg H H'→H' r=some (.lst (ks.map nV))→(∀k ∈ ks,k < ps.length)→ks.length≤ps.length→ks.filter (jx ps)=(ycd ps.length).filter (jx ps)→Q (.ref r) H'
def xc:Sp:=fun vs H Q _=>∃(l:Addr) (ps:y8) (n:Nat),vs= [.int (n:Int), .ref l]∧yo H l ps∧ps.length≤300∧InR n ps∧n < 64∧
 ∀r H',yg H H'→H' r=some (.lst (((ycd ps.length).filter (jx ps)).map nV))→Q (.ref r) H'
def y87(CN:Addr):Sp:=fun vs H Q E=>∃(n:Int) (l:Addr) (ps:y8) (k:Int),vs= [.int n, .ref l, .int k]∧yo H l ps∧ps.length≤300∧InR n ps∧n < 64∧
 (¬(0≤k∧k < ps.length)→∀H',yg H H'→E (.ref CN) none H')∧∀p,0≤k→ps[k.toNat]? =some p→∀r H',yg H H'→y8g H' r n (bw (wok ps k.toNat)) p.1 p.2→Q (.ref r) H'
section
variable{P:Program}{w:World}{K:yc3}{mg:Str→Option Value}{base:Heap}
variable{fCheckL fWW fBoth fRing fNewly fBr fTie fRef fUpto fAt fLanesBy fSame fWholeRow fLTold fLReach fLBoth fLaw:Addr}{gCheckL gWW gBoth gRing gNewly gBr gTie gRef gUpto gAt gLanesBy gSame gWholeRow gLTold gLReach gLBoth gLaw:FuncData}
theorem y8r(d:DefAt K mg "ring_or_wall" YY Jm fRing gRing)(yD:DefAt K mg "walk_or_wall" Yv Yg fWW gWW)(YL:FnOk P w K mg base CX0 3 fWW gWW Yg Mn)
  (Y5:DefAt K mg "both_ways" YT YS fBoth gBoth) (jD:FnOk P w K mg base CX0 1 fBoth gBoth YS Zi):FnOk P w K mg base CX0 4 fRing gRing Jm qb:=by
 refine d.F.ok LK (fun vs H Q E h=> ?_) (fun cdv A outer s H vs Q E hr h=> ?_)
 ·obtain⟨l,ps,n,k,p,rfl,_⟩:=h
  rfl
 obtain⟨l,ps,n,k,p,rfl,⟨as,hl,hp⟩,hlen,hin,hk,hn,q⟩:=h
 have hpl:=Paired.len hp
 have hkl:k < ps.length:=(yc5.mp hk).1
 have hml:(as.map V.ref).length=ps.length:=by rw [yc2]; exact hpl
 obtain⟨b,hb,hbp⟩:=Vz hp hk
 have hix:atI (as.map V.ref) (k:Int)=some (.ref b):=JF (by rw [yca,hb]; rfl)
 have rp:=hin p (yce hk)
 refine⟨_,(y7 (yB (i:=2) LK.nd rfl (Or.inl rfl) (yN WL (LO Mo (pv 0) ZJ (LD (pv 1))) (LO Mo (pv 0) (LD (yN LR (pv 1) ye)) ZJ)))
   (y7 (yB (i:=3) LK.nd rfl (Or.inl rfl) (yd YL (hr.mono (by decide)) rfl yD.m yD.F.kp yD.b .nil yr (y0 (yd jD (hr.mono (by decide)) rfl Y5.m Y5.F.kp Y5.b .nil yr (y0 (pv 2) y3)) (y0 (yq Yy (yq yS (pv 0) (pv 1) (fun _ _=>rfl)) ye (fun _ _=>rfl)) (y0 (yq Yy (yq yS (pv 0) (pv 1) (fun _ _=>rfl)) ye (fun _ _=>rfl)) y3)))))
   (yc (yy (J4 (y0 (zE (yt Y1 (yq Yy (pv 3) ye (fun _ _=>rfl)) YQ (yx _)) YQ YQ) (y0 (yq Yy (pv 3) ye (fun _ _=>rfl)) y3))))))), ?_⟩
 refine Vv ?_
 intro R2 R1
 refine⟨_,rfl,_,rfl,_,rfl,l,_,rfl,SqL.of hl,fun c hc=> ?_⟩
 rw [y3q _ (by omega)]
 have s1:=yb hc (.lst ((as.map V.ref).take k))
 refine⟨_,rfl,_,rfl,_,_,rfl,rfl,_,rfl,l,_,rfl,SqL.of (s1 _ _ hl),fun c2 hc2=> ?_⟩
 rw [show((k:Int) + 1)=((k + 1:Nat):Int) from by omega,y5c]
 have s2:=yb hc2 (.lst ((as.map V.ref).drop (k + 1)))
 refine⟨c,c2,_,_,rfl,rfl,s2 _ _ y6,y6,JB (by rw [yd4,ydt]; omega),fun c3 hc3=> ?_⟩
 have s3:=s1.trans (s2.trans (yb hc3 (.lst ((as.map V.ref).take k ++ (as.map V.ref).drop (k + 1)))))
 have hW:=y3y (k:=k) (Paired.mapP hp fun a p e=>s3 _ _ e) y6
 have hwl:=y9b (ps:=ps) (k:=k)
 refine⟨_,rfl,c3,wok ps k,rfl,hW,by omega,fun l2 H2 s4 _ hL2=> ?_⟩
 have s5:=s3.trans s4
 have hbw:=QR (wok ps k)
 refine⟨_,rfl,_,rfl,l,_,_,_,rfl,rfl,SqL.of (s5 _ _ hl),hix,b,_,_,_,rfl,rfl,SqT.of (s5 _ _ hbp),rfl,_,rfl,_,rfl,l,_,_,_,rfl,rfl,SqL.of (s5 _ _ hl),hix,b,_,_,_,rfl,rfl,SqT.of (s5 _ _ hbp),rfl,
  l2,bw (wok ps k),n,p.1,p.2,rfl,hL2,by omega,MU (ybz hin),rp.1,hn,fun r H3 s6 T=> ?_⟩
 obtain⟨w0,x,row,t1,t2,t3,t4⟩:=T
 refine⟨_,rfl,r,_,_,_,rfl,rfl,SqT.of t1,rfl,rfl,_,rfl, ?_⟩
 rcases t4 with⟨rfl,W⟩ | ⟨rfl,W⟩
 ·refine yT ⟨_,rfl,r,_,_,_,rfl,rfl,SqT.of t1,rfl,(by show 2≤sizeLine; decide),fun u hu=> ?_⟩
  have s7:=yb hu (.tup [.str "ring", .ref x])
  exact q u _ (s5.trans (s6.trans s7)) ⟨"ring",x,row,y6,s7 _ _ t2,t3, .inl ⟨rfl,W⟩⟩
 ·refine Y0 ⟨_,rfl,r,_,_,_,rfl,rfl,SqT.of t1,rfl,(by show 2≤sizeLine; decide),fun u hu=> ?_⟩
  have s7:=yb hu (.tup [.str "wall", .ref x])
  exact q u _ (s5.trans (s6.trans s7)) ⟨"wall",x,row,y6,s7 _ _ t2,t3, .inr ⟨rfl,W⟩⟩
theorem y6i{H2:Hp}{js:List Nat}{σ:St}{N:List V→Hp→Prop}{zs:List V}{x kp mg:Int}(e1:(yJ js σ (some (.int x)))[1]? =some (some (.int kp)))(e2:(yJ js σ (some (.int x)))[2]? =some (some (.int mg)))(h:N (zs ++ [V.int (if x=mg then kp else x)]) H2) :
  MS (yJ js σ (some (.int x))) H2 fun b H3=>if b=true then(tIf (ZK (tOp rEq (Jc 0) (Jc 2))) (Jc 1) (Jc 0)) (yJ js σ (some (.int x))) H3 fun y H4=>N (zs ++ [y]) H4 else N zs H3:=by
 refine VD (yT ⟨_,rfl,_,e2,rfl,_,rfl, ?_⟩)
 by_cases c:x=mg
 ·rw [decide_eq_true (congrArg V.int c)]
  rw [if_pos c] at h
  exact yT ⟨_,e1,h⟩
 ·rw [decide_eq_false fun z=>c (V.int.inj z)]
  rw [if_neg c] at h
  exact Y0 ⟨_,rfl,h⟩
theorem y7q(d:DefAt K mg "newly_joining" YE JE fNewly gNewly)(z:Zs mg):FnOk P w K mg base CX0 1 fNewly gNewly JE y0t:=by
 refine d.F.ok YJ (fun vs H Q E h=> ?_) (fun cdv A outer s H vs Q E hr h=> ?_)
 ·obtain⟨l,ps,n,rfl,_⟩:=h
  rfl
 obtain⟨l,ps,n,rfl,⟨as,hl,hp⟩,hlen,hin,hn,q⟩:=h
 have hpl:=Paired.len hp
 have hml:(as.map V.ref).length=ps.length:=by rw [yc2]; exact hpl
 refine⟨_,(y7 (yB (i:=2) YJ.nd rfl (Or.inl rfl) (zX rfl rfl z.list rfl z.range (y0 (pv 0) y3)))
   (y7 (yB (i:=3) YJ.nd rfl (Or.inl rfl) (yZ y3))
   (y7 (JW PassesOwn.never rfl (y0j rfl z.enumerate (y0 (pv 1) y3)) (y3v rfl (MA (YR (i:=4) YJ.nd rfl (Or.inl rfl)) (MA (YR (i:=5) YJ.nd rfl (Or.inl rfl)) y13))) (y7 (yB (i:=6) YJ.nd rfl (Or.inr rfl) (yq yS (pv 2) (yq Yy (pv 5) ye (fun _ _=>rfl)) (fun _ _=>rfl)))
   (y7 (yB (i:=7) YJ.nd rfl (Or.inr rfl) (yq yS (pv 2) (yq Yy (pv 5) ye (fun _ _=>rfl)) (fun _ _=>rfl)))
   (yc (yP (yt M0 (pv 6) (pv 7) (yx _)) (y7 (yl (Ll ydy ye3 ye4 jL (pv 3) (y0 (pv 4) y3)))
   (yc (VF (i:=2) YJ.nd rfl (Or.inl rfl) QM rfl (Yx (pv 2)) (fun _ _ _ _=>Jp) (fun _ _ _ _=>(zE (yt Y1 (pv 0) (pv 2) (yx _)) (pv 1) (pv 0)))))) yQ)))))
   (yc (yy (pv 3)))))), ?_⟩
 refine QD ?_
 intro R3 R2 R1
 refine⟨_,rfl,(n:Int),rfl,by omega,by omega,fun gA hgA=> ?_⟩
 have s1:=yb hgA (.lst ((ycd (n:Int).toNat).map fun k:Nat=>V.int (k:Int)))
 refine⟨(by show 0≤sizeLine; decide),fun nA hnA=> ?_⟩
 have s2:=s1.trans (yb hnA (.lst []))
 have hnA0:H nA=none:=by
  cases e:H nA with
  | none=>rfl
  | some u=>rw [s1 _ _ e] at hnA; cases hnA
 have hne:gA ≠ nA:=fun z=>by rw [←z,y6] at hnA; cases hnA
 refine⟨_,rfl,l,rfl,⟨_,SqL.of (s2 _ _ hl)⟩,Wo (K:=K) (a:=l) (xs:=as.map V.ref) (fun i σ H2=>∃(G:List Int) (gA:Addr) (ks:List Nat) (v1 v2 v3 v4:Option V),σ= [some (.int (n:Int)),some (.ref l),some (.ref gA),some (.ref nA),v1,v2,v3,v4]∧yg H H2∧
   H2 nA=some (.lst (ks.map nV))∧H2 gA=some (.lst (G.map V.int))∧gA ≠ nA∧G.length=n∧Grp (ps.take i) G∧(∀k ∈ ks,k < i)∧ks.length≤i∧ks.filter (jx ps)=(ycd i).filter (jx ps))
  ⟨qQ n,gA, [],none,none,none,none,rfl,s2,y6, ?_,hne, ?_, ?_,fun k hk=>(by cases hk),yc6 _,rfl⟩ (fun i σ H2 _ ⟨_,_,_,_,_,_,_,_,s3,_⟩=>SqL.of (s3 _ _ hl)) ?_ ?_⟩
 ·rw [yi hne,y6]
  unfold qQ
  rw [ydg]; rfl
 ·unfold qQ; rw [yc2,yd2]
 ·exact y2z n _
 ·rintro i y σ H2 p hy ⟨G,gA,ks,v1,v2,v3,v4,rfl,s3,hN,hG,hne,hGl,g,hk1,hk2,hk3⟩ hpn
  obtain⟨b,pq,rfl,hpi,hb⟩:=jO hp hy
  have sp:=yb hpn (.tup [.int (i:Int), .ref b])
  have hnp:nA ≠ p:=ym hN hpn
  have hgp:gA ≠ p:=ym hG hpn
  have r1:=hin pq (yce hpi)
  have hil:=(yc5.mp hpi).1
  obtain⟨a0,ha0⟩:∃a0:Nat,pq.1=(a0:Int):=⟨pq.1.toNat,by omega⟩
  obtain⟨b0,hb0⟩:∃b0:Nat,pq.2=(b0:Int):=⟨pq.2.toNat,by omega⟩
  obtain⟨kp,hkp⟩:∃kp,G[a0]? =some kp:=⟨G[a0]'(by omega),yc4 _⟩
  obtain⟨mg,hmg⟩:∃mg,G[b0]? =some mg:=⟨G[b0]'(by omega),yc4 _⟩
  have hpq:pq=((a0:Int),(b0:Int)):=by rw [←ha0,←hb0]
  subst hpq
  have hbH:=sp _ _ (s3 _ _ hb)
  have hGH:=sp _ _ hG
  refine⟨p,_,rfl,SqT.of y6,rfl,_,_,rfl,_,_,rfl,rfl, ?_⟩
  refine⟨_,rfl,_,rfl,b,_,_,_,rfl,rfl,SqT.of hbH,rfl,gA,_,_,_,rfl,rfl,SqL.of hGH,LN hkp, ?_⟩
  refine⟨_,rfl,_,rfl,b,_,_,_,rfl,rfl,SqT.of hbH,rfl,gA,_,_,_,rfl,rfl,SqL.of hGH,LN hmg, ?_⟩
  refine⟨_,rfl,_,rfl,rfl,_,rfl, ?_⟩
  have hrs:(ycd (i + 1)).filter (jx ps)=(ycd i).filter (jx ps) ++ [i].filter (jx ps):=by rw [yfq,ye7]
  by_cases c:kp=mg
  ·rw [decide_eq_true (congrArg V.int c)]
   refine Y0 ⟨G,gA,ks,_,_,_,_,rfl,s3.trans sp,sp _ _ hN,hGH,hne,hGl, ?_,fun k hk=>ydi (hk1 k hk),by omega, ?_⟩
   ·rw [yE hpi]; exact WC g _
   ·have:jx ps i=false:=QQ hpi (by subst c; exact y6d g hkp hmg)
    rw [hrs,ydb,this,hk3]
    simp
  ·rw [decide_eq_false fun z=>c (V.int.inj z)]
   refine yT ⟨_,rfl, .inl ⟨rfl,_,SqL.of (sp _ _ hN)⟩,_,rfl,nA,_,_,rfl,rfl,sp _ _ hN,JM (by rw [yc2]; omega), ?_⟩
   have hG4:(upd (upd H2 p (.tup [.int (i:Int), .ref b])) nA (.lst (ks.map nV ++ [V.int (i:Int)]))) gA=some (.lst (G.map V.int)):=by rw [yi hne]; exact hGH
   refine⟨_,rfl,gA,rfl,⟨_,SqL.of hG4⟩,Jq (K:=K) (a:=gA) (xs:=G.map V.int) (fun j ys H4=>H4=(upd (upd H2 p (.tup [.int (i:Int), .ref b])) nA (.lst (ks.map nV ++ [V.int (i:Int)])))∧ys=((G.take j).map fun x=>if x=mg then kp else x).map V.int) ⟨rfl,rfl⟩ (fun j ys H4 hj ⟨e,e2⟩=> ?_) (by rw [yc2]; exact JB (by omega)) (fun j x ys H4 hx ⟨e,e2⟩=> ?_) (fun ys H4 ⟨e,e2⟩ p2 hp2=> ?_)⟩
   ·subst e e2
    refine⟨SqL.of hG4, ?_⟩
    rw [yc2,yc2,yd4]; omega
   ·subst e e2
    obtain⟨x,rfl,hxj⟩:=Ml hx
    refine y6i (N:=fun ys H4=>H4=(upd (upd H2 p (.tup [.int (i:Int), .ref b])) nA (.lst (ks.map nV ++ [V.int (i:Int)])))∧ys=((G.take (j + 1)).map fun x=>if x=mg then kp else x).map V.int) rfl rfl ⟨rfl, ?_⟩
    rw [yE hxj,yci,yci]; rfl
   ·subst e e2
    rw [yc2,yd8] at *
    have hp2n:nA ≠ p2:=fun z=>by rw [←z,y6] at hp2; cases hp2
    have sN:yg H (upd (upd (upd H2 p (.tup [.int (i:Int), .ref b])) nA (.lst (ks.map nV ++ [V.int (i:Int)]))) p2 (.lst ((G.map fun x=>if x=mg then kp else x).map V.int))):=
     (YV (s3.trans sp) hnA0 _).trans (yb hp2 _)
    refine⟨(G.map fun x=>if x=mg then kp else x),p2,ks ++ [i],_,_,_,_,rfl,sN, ?_,y6,Ne.symm hp2n,by rw [yc2]; exact hGl, ?_,fun k hk=> ?_,by rw [ycr,yd5]; omega, ?_⟩
    ·rw [yi hp2n,y6,yci]; rfl
    ·rw [yE hpi]; exact y6w g hkp hmg
    ·rcases ycw.mp hk with hk | hk
     ·exact ydi (hk1 k hk)
     ·rw [ycb.mp hk]; exact yeh _
    ·rw [ye7,hrs,hk3]
 ·rintro σ H2 ⟨G,gA,ks,v1,v2,v3,v4,rfl,s3,hN,hG,hne,hGl,g,hk1,hk2,hk3⟩
  rw [hml] at hk1 hk2 hk3
  exact⟨_,rfl,q nA ks H2 s3 hN hk1 hk2 hk3⟩
theorem ya6{H2:Hp}{js:List Nat}{σ:St}{N:List V→Hp→Prop}{K:yc3}{zs:List V}{l:Addr}{ps:y8}{n:Int}{k:Nat}(e1:(yJ js σ (some (nV k)))[1]? =some (some (.ref l)))(hL:yo H2 l ps)(hlen:ps.length≤300)(hin:InR n ps)(hk:k < ps.length)(hn:n < 64)
  (h:∀H3,yg H2 H3→N (if jx ps k=true then zs ++ [nV k] else zs) H3) :
  (ZK (tOp rEq (tOp (Qm K) (y84 qb [] (fun _ _ _=>False) (ML (Jc 1) (ML (Jc 0) tNil))) (tC (.int 0))) (tC (.str "wall")))) (yJ js σ (some (nV k))) H2 fun b H3=>if b=true then(Jc 0) (yJ js σ (some (nV k))) H3 fun y H4=>N (zs ++ [y]) H4 else N zs H3:=by
 obtain⟨p,hp⟩:∃p,ps[k]? =some p:=⟨ps[k],yc4 hk⟩
 refine⟨_,e1,_,rfl,l,ps,n,k,p,rfl,hL,hlen,hin,hp,hn,fun r H3 s3 T=> ?_⟩
 obtain⟨w0,x,row,t1,t2,t3,t4⟩:=T
 have h3:=h H3 s3
 refine⟨r,_,_,_,rfl,rfl,SqT.of t1,rfl,rfl,_,rfl, ?_⟩
 rcases t4 with⟨rfl,W⟩ | ⟨rfl,W⟩
 ·rw [QQ hp (Qe W)] at h3
  exact Y0 (by simpa using h3)
 ·rw [y4z hp (WE W)] at h3
  exact yT ⟨_,rfl,by simpa using h3⟩
theorem y2d(d:DefAt K mg "bridges" JS jE fBr gBr)(y4:DefAt K mg "check_lanes" yw yh fCheckL gCheckL)(yj:FnOk P w K mg base CX0 3 fCheckL gCheckL yh YW)
  (YC:DefAt K mg "ring_or_wall" YY Jm fRing gRing) (Mc:FnOk P w K mg base CX0 4 fRing gRing Jm qb) (JD:DefAt K mg "newly_joining" YE JE fNewly gNewly) (zj:FnOk P w K mg base CX0 1 fNewly gNewly JE y0t) :
  FnOk P w K mg base CX0 5 fBr gBr jE xc:=by
 refine d.F.ok x9 (fun vs H Q E h=> ?_) (fun cdv A outer s H vs Q E hr h=> ?_)
 ·obtain⟨l,ps,n,rfl,_⟩:=h
  rfl
 obtain⟨l,ps,n,rfl,hL,hlen,hin,hn,q⟩:=h
 refine⟨_,(y7 (yl (yd yj (hr.mono (by decide)) rfl y4.m y4.F.kp y4.b .nil yr (y0 (pv 0) (y0 (pv 1) y3))))
   (yc (yy (jd y2h rfl (Yx (yd zj (hr.mono (by decide)) rfl JD.m JD.F.kp JD.b .nil yr (y0 (pv 0) (y0 (pv 1) y3)))) (fun _ _ _ _=>Vb (yt Y1 (yq (Jr (K:=K) rfl) (yd Mc (hr.mono (by decide)) rfl YC.m YC.F.kp YC.b .nil yr (y0 (pv 1) (y0 (pv 0) y3))) ye (fun _ _=>rfl)) YQ (yx _))) (fun _ _ _ _=>(pv 0)))))), ?_⟩
 refine⟨_,rfl,_,rfl,(n:Int),l,ps,rfl,hL,hin,fun H1 s1=> ?_⟩
 refine⟨_,rfl,_,rfl,l,ps,n,rfl,hL.mono s1,hlen,hin,hn,fun r ks H2 s2 hr2 hk1 hk2 hk3=> ?_⟩
 have s02:=s1.trans s2
 refine⟨r,rfl,⟨_,SqL.of hr2⟩,Jq (K:=K) (a:=r) (xs:=ks.map nV) (fun i ys H3=>yg H2 H3∧ys=((ks.take i).filter (jx ps)).map nV) ⟨yg.refl _,rfl⟩ (fun i ys H3 hi ⟨s3,e⟩=> ?_) (by rw [yc2]; exact JB (by omega)) (fun i x ys H3 hx ⟨s3,e⟩=> ?_) (fun ys H3 ⟨s3,e⟩ p hpn=> ?_)⟩
 ·subst e
  refine⟨SqL.of (s3 _ _ hr2), ?_⟩
  have h1:=ydp (jx ps) (ks.take i)
  rw [yd4] at h1
  rw [yc2]; omega
 ·subst e
  obtain⟨k,hk,rfl⟩:∃k,ks[i]? =some k∧nV k=x:=by
   rw [yca] at hx
   cases e:ks[i]? with
   | none=>rw [e] at hx; cases hx
   | some k=>rw [e] at hx; exact⟨k,rfl,Option.some.inj hx⟩
  refine ya6 (N:=fun ys H3=>yg H2 H3∧ys=((ks.take (i + 1)).filter (jx ps)).map nV) (n:=n) rfl ((hL.mono s02).mono s3) hlen hin (hk1 k (yce hk)) (by omega) fun H4 s4=>⟨s3.trans s4, ?_⟩
  rw [yE hk,ye7,yci]
  by_cases c:jx ps k=true
  ·rw [if_pos c,ydb,if_pos c]; rfl
  ·rw [if_neg c,ydb,if_neg c]; simp
 ·subst e
  rw [yc2,yd8,hk3] at *
  exact q p _ (s02.trans (s3.trans (yb hpn _))) y6
theorem ybv{CNoTie:Addr}(cNoTie:ClsAt K mg "NoTie" CNoTie)(d:DefAt K mg "tie_told" j9 jB fTie gTie)(z:Zs mg)(y4:DefAt K mg "check_lanes" yw yh fCheckL gCheckL)(yj:FnOk P w K mg base CX0 3 fCheckL gCheckL yh YW)
  (YC:DefAt K mg "ring_or_wall" YY Jm fRing gRing) (Mc:FnOk P w K mg base CX0 4 fRing gRing Jm qb):FnOk P w K mg base (CXr P w) 5 fTie gTie jB (y87 CNoTie):=by
 refine d.F.okX xE (fun vs H Q E h=> ?_) (fun cdv A outer s H vs Q E hr h=> ?_)
 ·obtain⟨n,l,ps,k,rfl,_⟩:=h
  rfl
 obtain⟨n,l,ps,k,rfl,hL,hlen,hin,hn,qe,q⟩:=h
 refine⟨_,(y7 (yl (yd yj (hr.mono (by decide)) rfl y4.m y4.F.kp y4.b .nil yr (y0 (pv 0) (y0 (pv 1) y3))))
   (y7 (yP (Vw (y61 y1z MM ye (pv 2) (yC yO rfl z.len Yn (y0 (pv 1) y3)))) (yc (MN (E:=E) yf0 cNoTie.exc rfl cNoTie.m rfl (y0 YQ y3) Mb)) yQ)
   (yc (yy (yd Mc (hr.mono (by decide)) rfl YC.m YC.F.kp YC.b .nil yr (y0 (pv 1) (y0 (pv 2) y3))))))), ?_⟩
 refine Vv ?_
 intro R2 R1
 refine⟨_,rfl,_,rfl,n,l,ps,rfl,hL,hin,fun H1 s1=> ?_⟩
 obtain⟨as,hl,hp⟩:=hL.mono s1
 have hml:(as.map V.ref).length=ps.length:=by rw [yc2]; exact Paired.len hp
 refine⟨_,rfl,0,k,rfl,rfl,_,rfl, ?_⟩
 by_cases c0:0≤k
 ·rw [decide_eq_true c0]
  refine yT ⟨_,rfl,l,_,rfl, .inl (SqL.of hl),k,_,rfl,rfl,_,rfl, ?_⟩
  rw [hml]
  by_cases c1:k < ((ps.length:Nat):Int)
  ·rw [decide_eq_true c1]
   have hk:k.toNat < ps.length:=by omega
   refine Y0 ⟨_,rfl,_,rfl,l,ps,n,k.toNat,ps[k.toNat],by rw [Int.toNat_of_nonneg c0]; rfl,hL.mono s1,hlen,hin,yc4 hk,hn,fun r H' s' T=>q _ c0 (yc4 hk) r H' (s1.trans s') T⟩
  ·rw [decide_eq_false c1]
   exact yT ⟨(by show 1≤sizeLine; decide),qe (fun z=>c1 z.2) _ s1⟩
 ·rw [decide_eq_false c0]
  exact Y0 ⟨_,rfl,yT ⟨(by show 1≤sizeLine; decide),qe (fun z=>c0 z.1) _ s1⟩⟩
end
def zF:Sp:=fun vs H Q _=>∃(n:Int) (l:Addr) (ps:y8) (one other:Int),vs= [.int n, .ref l, .int one, .int other]∧yo H l ps∧ps.length≤400∧InR n ps∧(0≤one∧one < n)∧(0≤other∧other < n)∧n < 64∧∀p H',yg H H'→Told H' p n (bw ps) one other→Q (.ref p) H'
section
variable{P:Program}{w:World}{K:yc3}{mg:Str→Option Value}{base:Heap}
variable{fCheck fCheckL fWW fWalk fUpto fAt fLanesBy fSame fLTold fLaw:Addr}{gCheck gCheckL gWW gWalk gUpto gAt gLanesBy gSame gLTold gLaw:FuncData}
theorem y5j(d:DefAt K mg "joined" jP Vl fWalk gWalk)(y4:DefAt K mg "check_lanes" yw yh fCheckL gCheckL)(yj:FnOk P w K mg base CX0 3 fCheckL gCheckL yh YW)
  (y9:DefAt K mg "check_places" yG yk fCheck gCheck) (yp:FnOk P w K mg base CX0 2 fCheck gCheck yk (jS K)) (yD:DefAt K mg "walk_or_wall" Yv Yg fWW gWW) (YL:FnOk P w K mg base CX0 3 fWW gWW Yg Mn)
  {fBoth:Addr} {gBoth:FuncData} (Y5:DefAt K mg "both_ways" YT YS fBoth gBoth) (jD:FnOk P w K mg base CX0 1 fBoth gBoth YS Zi) :
  FnOk P w K mg base CX0 4 fWalk gWalk Vl zF:=by
 refine d.F.ok W3 (fun vs H Q E h=> ?_) (fun cdv A outer s H vs Q E hr h=> ?_)
 ·obtain⟨n,l,ps,one,other,rfl,_⟩:=h
  rfl
 obtain⟨n,l,ps,one,other,rfl,hL,hlen,hin,h1,h2,hn,q⟩:=h
 refine⟨_,(y7 (yl (yd yj (hr.mono (by decide)) rfl y4.m y4.F.kp y4.b .nil yr (y0 (pv 0) (y0 (pv 1) y3))))
   (y7 (yl (yd yp (hr.mono (by decide)) rfl y9.m y9.F.kp y9.b .nil yr (y0 (pv 0) (y0 (yZ (y0 (pv 2) (y0 (pv 3) y3))) y3))))
   (yc (yy (yd YL (hr.mono (by decide)) rfl yD.m yD.F.kp yD.b .nil yr (y0 (yd jD (hr.mono (by decide)) rfl Y5.m Y5.F.kp Y5.b .nil yr (y0 (pv 1) y3)) (y0 (pv 2) (y0 (pv 3) y3)))))))), ?_⟩
 refine Vv ?_
 intro R2 R1
 refine⟨_,rfl,_,rfl,n,l,ps,rfl,hL,hin,fun H1 s1=> ?_⟩
 refine⟨_,rfl,_,rfl,_,rfl,(by show 2≤sizeLine; decide),fun e he=> ?_⟩
 have se:=yb he (.lst [.int one, .int other])
 refine⟨n,e, [one,other],rfl, .inl (SqL.of y6),(by show 2≤1000; decide),fun x hx=> ?_,fun H2 s2=> ?_⟩
 ·rcases ycg.mp hx with e | hx
  ·rw [e]; exact h1
  ·rw [ycb.mp hx]; exact h2
 ·have s3:=s1.trans (se.trans s2)
  refine⟨_,rfl,l,ps,rfl,hL.mono s3,hlen,fun l2 H3 s4 _ hB=> ?_⟩
  exact⟨_,rfl,_,rfl,l2,bw ps,n,one,other,rfl,hB,by rw [QR]; omega,MU hin,h1,hn,fun p H' s' T=>q p H' (s3.trans (s4.trans s')) T⟩
end
def jh(K:yc3)(CN:Addr):Sp:=fun vs H Q E=>∃(n:Int) (a:Addr) (ns:List Int),vs= [.int n, .ref a]∧(SqL K H a (ns.map V.int)∨SqT K H a (ns.map V.int))∧ns.length≤1000∧((∀x ∈ ns,0≤x∧x < n)→∀H',yg H H'→Q .non H')∧(¬(∀x ∈ ns,0≤x∧x < n)→∀H',yg H H'→E (.ref CN) none H')
def YK(CN:Addr):Sp:=fun vs H Q E=>∃(n:Int) (l:Addr) (ps:y8),vs= [.int n, .ref l]∧yo H l ps∧(InR n ps→∀H',yg H H'→Q .non H')∧(¬InR n ps→∀H',yg H H'→E (.ref CN) none H')
def Yi(CN:Addr)(m:Nat):Sp:=fun vs H _ E=>∃(n:Int) (l:Addr) (ps:y8) (yU:List V),vs= .int n :: .ref l :: yU∧yU.length=m∧yo H l ps∧¬InR n ps∧∀H',yg H H'→E (.ref CN) none H'
def Jx(CN:Addr)(m:Nat):Sp:=fun vs H _ E=>∃(n:Int) (l:Addr) (ps:y8) (xs:List Int),vs= .int n :: .ref l :: xs.map V.int∧xs.length=m∧yo H l ps∧¬(InR n ps∧∀x ∈ xs,0≤x∧x < n)∧∀H',yg H H'→E (.ref CN) none H'
theorem y3e{xs:List Int}(h:xs.length=1):∃a,xs= [a]:=by
 match xs,h with
 | [a],_=>exact⟨a,rfl⟩
theorem QZ{xs:List Int}(h:xs.length=2):∃a b,xs= [a,b]:=by
 match xs,h with
 | [a,b],_=>exact⟨a,b,rfl⟩
theorem y70{xs:List Int}(h:xs.length=3):∃a b c,xs= [a,b,c]:=by
 match xs,h with
 | [a,b,c],_=>exact⟨a,b,c,rfl⟩
theorem y4v{ns:List Int}{n:Int}(h:¬∀x ∈ ns,0≤x∧x < n):(ns.all fun x=>decide (0≤x) && decide (x < n))=false:=by
 refine ydh.mpr fun e=>h fun x hx=> ?_
 have e2:=ye9.mp e x hx
 rw [yeo,decide_eq_true_iff,decide_eq_true_iff] at e2
 exact e2
section
variable{P:Program}{w:World}{K:yc3}{mg:Str→Option Value}{base:Heap}{CN:Addr}
variable{fAre fCheck fCheckL fLead fParts fNums fBetw fRows f:Addr}{gAre gCheck gCheckL gLead gParts gNums gBetw gRows g:FuncData}
theorem y46{CNoPlace:Addr}(cNoPlace:ClsAt K mg "NoPlace" CNoPlace)(d:DefAt K mg "check_places" yG yk fCheck gCheck)(yX:DefAt K mg "are_places" YD YG fAre gAre)(jf:FnOk P w K mg base CX0 1 fAre gAre YG (qg K)):FnOk P w K mg base (CXr P w) 2 fCheck gCheck yk (jh K CNoPlace):=by
 refine d.F.okX Z5 (fun vs H Q E h=> ?_) (fun cdv A outer s H vs Q E hr h=> ?_)
 ·obtain⟨n,a,ns,rfl,_⟩:=h
  rfl
 obtain⟨n,a,ns,rfl,hS,hl,q,qe⟩:=h
 refine⟨_,(yc (yP (Vw (Jv (yd jf (hr.mono (by decide)) rfl yX.m yX.F.kp yX.b .nil yr (y0 (pv 0) (y0 (pv 1) y3))))) (yc (MN (E:=E) yf0 cNoPlace.exc rfl cNoPlace.m rfl (y0 YQ y3) Mb)) yQ)), ?_⟩
 refine⟨_,rfl,_,rfl,n,a,ns,rfl,hS,hl,fun H' s'=>⟨_,rfl, ?_⟩⟩
 by_cases c:∀x ∈ ns,0≤x∧x < n
 ·rw [Wp c]
  exact Y0 (q c _ s')
 ·rw [y4v c]
  exact yT ⟨(by show 1≤sizeLine; decide),qe c _ s'⟩
theorem y2b(d:DefAt K mg "check_lanes" yw yh fCheckL gCheckL)(y9:DefAt K mg "check_places" yG yk fCheck gCheck)(yp:FnOk P w K mg base (CXr P w) 2 fCheck gCheck yk (jh K CN)) :
  FnOk P w K mg base (CXr P w) 3 fCheckL gCheckL yh (YK CN):=by
 refine d.F.okX VA (fun vs H Q E h=> ?_) (fun cdv A outer s H vs Q E hr h=> ?_)
 ·obtain⟨n,a,ns,rfl,_⟩:=h
  rfl
 obtain⟨n,l,ps,rfl,⟨as,hl,hp⟩,q,qe⟩:=h
 have hpl:=Paired.len hp
 refine⟨_,(yc (JW PassesOwn.leaving rfl (Yx (pv 1)) (YR (i:=2) VA.nd rfl (Or.inl rfl)) (yc (yl (yd yp (hr.mono (by decide)) rfl y9.m y9.F.kp y9.b .nil yF (y0 (pv 0) (y0 (pv 2) y3))))))), ?_⟩
 refine⟨_,rfl,l,rfl,⟨_,SqL.of hl⟩,VN (K:=K) (a:=l) (xs:=as.map V.ref) (fun i σ H2=>∃v,σ= [some (.int n),some (.ref l),v]∧yg H H2∧InR n (ps.take i)) ⟨none,rfl,yg.refl _,fun p hp=>(by cases hp)⟩ (fun i σ H2 _ ⟨_,_,s2,_⟩=>SqL.of (s2 _ _ hl)) ?_ ?_⟩
 ·rintro i y σ H2 hi ⟨v,rfl,s2,hin⟩
  obtain⟨a,p,rfl,hpi,ha⟩:=jO hp hi
  refine⟨_,rfl,_,rfl,n,a, [p.1,p.2],rfl, .inr (SqT.of (s2 _ _ ha)),(by show 2≤1000; decide),fun hx H' s'=>⟨_,rfl,s2.trans s',fun p' hp'=> ?_⟩,fun hx H' s'=> ?_⟩
  ·rw [yE hpi] at hp'
   rcases ycw.mp hp' with hp' | hp'
   ·exact hin p' hp'
   ·rw [ycb.mp hp']
    exact⟨hx _ (yc8 ..),hx _ (yc9 _ (yc8 ..))⟩
  ·refine qe (fun z=>hx fun x hx=> ?_) _ (s2.trans s')
   have hr':=z p (yce hpi)
   rcases ycg.mp hx with e | hx
   ·rw [e]; exact hr'.1
   ·rw [ycb.mp hx]; exact hr'.2
 ·rintro σ H2 ⟨v,rfl,s2,hin⟩
  refine q (fun p hp=>hin p ?_) _ s2
  rw [yc2,hpl,yd8]
  exact hp
theorem y06(d:DefAt K mg "is_walk" jq Vf f g)(y4:DefAt K mg "check_lanes" yw yh fCheckL gCheckL)(yj:FnOk P w K mg base (CXr P w) 3 fCheckL gCheckL yh (YK CN)):FnOk P w K mg base (CXr P w) 4 f g Vf (Yi CN 1):=by
 refine d.F.okX Qn (fun vs H Q E h=> ?_) (fun cdv A outer s H vs Q E hr h=> ?_)
 ·obtain⟨n,l,ps,yU,rfl,hm,_⟩:=h
  show yU.length + 1 + 1=3
  omega
 obtain⟨n,l,ps,yU,rfl,hm,hL,hb,q⟩:=h
 exact⟨_,(y7 (yl (yd yj (hr.mono (by decide)) rfl y4.m y4.F.kp y4.b .nil yF (y0 (pv 0) (y0 (pv 1) y3))))
   Yb),_,rfl,_,rfl,n,l,ps,rfl,hL,fun hin=>absurd hin hb,fun _=>q⟩
theorem WW(d:DefAt K mg "is_shut" JX Vj f g)(y4:DefAt K mg "check_lanes" yw yh fCheckL gCheckL)(yj:FnOk P w K mg base (CXr P w) 3 fCheckL gCheckL yh (YK CN)):FnOk P w K mg base (CXr P w) 4 f g Vj (Yi CN 1):=by
 refine d.F.okX MR (fun vs H Q E h=> ?_) (fun cdv A outer s H vs Q E hr h=> ?_)
 ·obtain⟨n,l,ps,yU,rfl,hm,_⟩:=h
  show yU.length + 1 + 1=3
  omega
 obtain⟨n,l,ps,yU,rfl,hm,hL,hb,q⟩:=h
 exact⟨_,(y7 (yl (yd yj (hr.mono (by decide)) rfl y4.m y4.F.kp y4.b .nil yF (y0 (pv 0) (y0 (pv 1) y3))))
   Yb),_,rfl,_,rfl,n,l,ps,rfl,hL,fun hin=>absurd hin hb,fun _=>q⟩
theorem WX(d:DefAt K mg "bridges" JS jE f g)(y4:DefAt K mg "check_lanes" yw yh fCheckL gCheckL)(yj:FnOk P w K mg base (CXr P w) 3 fCheckL gCheckL yh (YK CN)):FnOk P w K mg base (CXr P w) 5 f g jE (Yi CN 0):=by
 refine d.F.okX x9 (fun vs H Q E h=> ?_) (fun cdv A outer s H vs Q E hr h=> ?_)
 ·obtain⟨n,l,ps,yU,rfl,hm,_⟩:=h
  show yU.length + 1 + 1=2
  omega
 obtain⟨n,l,ps,yU,rfl,hm,hL,hb,q⟩:=h
 exact⟨_,(y7 (yl (yd yj (hr.mono (by decide)) rfl y4.m y4.F.kp y4.b .nil yF (y0 (pv 0) (y0 (pv 1) y3))))
   Yb),_,rfl,_,rfl,n,l,ps,rfl,hL,fun hin=>absurd hin hb,fun _=>q⟩
theorem zN(d:DefAt K mg "tie_told" j9 jB f g)(y4:DefAt K mg "check_lanes" yw yh fCheckL gCheckL)(yj:FnOk P w K mg base (CXr P w) 3 fCheckL gCheckL yh (YK CN)):FnOk P w K mg base (CXr P w) 5 f g jB (Yi CN 1):=by
 refine d.F.okX xE (fun vs H Q E h=> ?_) (fun cdv A outer s H vs Q E hr h=> ?_)
 ·obtain⟨n,l,ps,yU,rfl,hm,_⟩:=h
  show yU.length + 1 + 1=3
  omega
 obtain⟨n,l,ps,yU,rfl,hm,hL,hb,q⟩:=h
 exact⟨_,(y7 (yl (yd yj (hr.mono (by decide)) rfl y4.m y4.F.kp y4.b .nil yF (y0 (pv 0) (y0 (pv 1) y3))))
   Yb),_,rfl,_,rfl,n,l,ps,rfl,hL,fun hin=>absurd hin hb,fun _=>q⟩
theorem qW(d:DefAt K mg "cut_places" J1 JO f g)(y4:DefAt K mg "check_lanes" yw yh fCheckL gCheckL)(yj:FnOk P w K mg base (CXr P w) 3 fCheckL gCheckL yh (YK CN)):FnOk P w K mg base (CXr P w) 4 f g JO (Yi CN 0):=by
 refine d.F.okX Q6 (fun vs H Q E h=> ?_) (fun cdv A outer s H vs Q E hr h=> ?_)
 ·obtain⟨n,l,ps,yU,rfl,hm,_⟩:=h
  show yU.length + 1 + 1=2
  omega
 obtain⟨n,l,ps,yU,rfl,hm,hL,hb,q⟩:=h
 exact⟨_,(y7 (yl (yd yj (hr.mono (by decide)) rfl y4.m y4.F.kp y4.b .nil yF (y0 (pv 0) (y0 (pv 1) y3))))
   Yb),_,rfl,_,rfl,n,l,ps,rfl,hL,fun hin=>absurd hin hb,fun _=>q⟩
theorem y4y{c T:Addr}(Fc:FunC K "parts" "parts" J3 f g c)(y4:DefAt K mg "check_lanes" yw yh fCheckL gCheckL)(yj:FnOk P w K mg base (CXr P w) 3 fCheckL gCheckL yh (YK CN)):FnOk P w K mg base (CXr P w) 4 f g JJ (Yi CN 0):=by
 refine Fc.okX (k:=3) Mh (fun vs H Q E h=> ?_) (fun A outer s H vs Q E hr h=> ?_)
 ·obtain⟨n,l,ps,yU,rfl,hm,_⟩:=h
  show yU.length + 1 + 1=2
  omega
 obtain⟨n,l,ps,yU,rfl,hm,hL,hb,q⟩:=h
 exact⟨_,(y7 (yl (yd yj (hr.mono (by decide)) rfl y4.m y4.F.kp y4.b .nil yF (y0 (pv 0) (y0 (pv 1) y3))))
   Yb),_,rfl,_,rfl,n,l,ps,rfl,hL,fun hin=>absurd hin hb,fun _=>q⟩
theorem Qu(d:DefAt K mg "part_numbers" Yr Yl f g)(z:Zs mg)(Yk:DefAt K mg "parts" J3 JJ fParts gParts)(Vx:FnOk P w K mg base (CXr P w) 4 fParts gParts JJ (Yi CN 0)):FnOk P w K mg base (CXr P w) 5 f g Yl (Yi CN 0):=by
 refine d.F.okX YU (fun vs H Q E h=> ?_) (fun cdv A outer s H vs Q E hr h=> ?_)
 ·obtain⟨n,l,ps,yU,rfl,hm,_⟩:=h
  show yU.length + 1 + 1=2
  omega
 obtain⟨n,l,ps,yU,rfl,hm,hL,hb,q⟩:=h
 exact⟨_,(y7 (yB (i:=2) YU.nd rfl (Or.inl rfl) (yd Vx (hr.mono (by decide)) rfl Yk.m Yk.F.kp Yk.b .nil yF (y0 (pv 0) (y0 (pv 1) y3))))
   Yb),_,rfl,_,rfl,n,l,ps, [],rfl,rfl,hL,hb,q⟩
theorem Q4(d:DefAt K mg "between_parts" Yd Yu f g)(z:Zs mg)(yY:DefAt K mg "part_numbers" Yr Yl fNums gNums)(jH:FnOk P w K mg base (CXr P w) 5 fNums gNums Yl (Yi CN 0)):FnOk P w K mg base (CXr P w) 6 f g Yu (Yi CN 0):=by
 refine d.F.okX j4 (fun vs H Q E h=> ?_) (fun cdv A outer s H vs Q E hr h=> ?_)
 ·obtain⟨n,l,ps,yU,rfl,hm,_⟩:=h
  show yU.length + 1 + 1=2
  omega
 obtain⟨n,l,ps,yU,rfl,hm,hL,hb,q⟩:=h
 exact⟨_,(y7 (yB (i:=2) j4.nd rfl (Or.inr rfl) (yd jH (hr.mono (by decide)) rfl yY.m yY.F.kp yY.b .nil yF (y0 (pv 0) (y0 (pv 1) y3))))
   Yb),_,rfl,_,rfl,n,l,ps, [],rfl,rfl,hL,hb,q⟩
theorem Qk(d:DefAt K mg "longest_rows" Ye Y8 f g)(z:Zs mg)(Yk:DefAt K mg "parts" J3 JJ fParts gParts)(Vx:FnOk P w K mg base (CXr P w) 4 fParts gParts JJ (Yi CN 0)):FnOk P w K mg base (CXr P w) 7 f g Y8 (Yi CN 0):=by
 refine d.F.okX jk (fun vs H Q E h=> ?_) (fun cdv A outer s H vs Q E hr h=> ?_)
 ·obtain⟨n,l,ps,yU,rfl,hm,_⟩:=h
  show yU.length + 1 + 1=2
  omega
 obtain⟨n,l,ps,yU,rfl,hm,hL,hb,q⟩:=h
 exact⟨_,(y7 (VF (i:=2) jk.nd rfl (Or.inl rfl) Ms rfl (Jk rfl z.range (y0 (yC yO rfl z.len Yn (y0 (yd Vx (hr.mono (by decide)) rfl Yk.m Yk.F.kp Yk.b .nil yF (y0 (pv 0) (y0 (pv 1) y3))) y3)) y3)) (fun _ _ _ _=>Jp) (fun _ _ _ _=>(yZ (y0 (pv 0) y3))))
   Yb),_,rfl,_,rfl,n,l,ps, [],rfl,rfl,hL,hb,q⟩
theorem y22(d:DefAt K mg "depths" jt Vd f g)(z:Zs mg)(yK:DefAt K mg "longest_rows" Ye Y8 fRows gRows)(Ju:FnOk P w K mg base (CXr P w) 7 fRows gRows Y8 (Yi CN 0)):FnOk P w K mg base (CXr P w) 8 f g Vd (Yi CN 0):=by
 refine d.F.okX WG (fun vs H Q E h=> ?_) (fun cdv A outer s H vs Q E hr h=> ?_)
 ·obtain⟨n,l,ps,yU,rfl,hm,_⟩:=h
  show yU.length + 1 + 1=2
  omega
 obtain⟨n,l,ps,yU,rfl,hm,hL,hb,q⟩:=h
 exact⟨_,(y7 (yy (jd xi rfl (Yx (yd Ju (hr.mono (by decide)) rfl yK.m yK.F.kp yK.b .nil yF (y0 (pv 0) (y0 (pv 1) y3)))) (fun _ _ _ _=>Jp) (fun _ _ _ _=>(yC (Z3 (K:=K) rfl) rfl z.len Yn (y0 (pv 0) y3)))))
   Yb),_,rfl,_,rfl,n,l,ps, [],rfl,rfl,hL,hb,q⟩
theorem WZ(d:DefAt K mg "deepest" jc jF f g)(z:Zs mg)(yK:DefAt K mg "longest_rows" Ye Y8 fRows gRows)(Ju:FnOk P w K mg base (CXr P w) 7 fRows gRows Y8 (Yi CN 0)):FnOk P w K mg base (CXr P w) 8 f g jF (Yi CN 0):=by
 refine d.F.okX xF (fun vs H Q E h=> ?_) (fun cdv A outer s H vs Q E hr h=> ?_)
 ·obtain⟨n,l,ps,yU,rfl,hm,_⟩:=h
  show yU.length + 1 + 1=2
  omega
 obtain⟨n,l,ps,yU,rfl,hm,hL,hb,q⟩:=h
 exact⟨_,(y7 (yy (xq (K:=K) rfl rfl rfl z.max rfl z.len (yd Ju (hr.mono (by decide)) rfl yK.m yK.F.kp yK.b .nil yF (y0 (pv 0) (y0 (pv 1) y3)))))
   Yb),_,rfl,_,rfl,n,l,ps, [],rfl,rfl,hL,hb,q⟩
theorem y79(d:DefAt K mg "walk" Lq M1 f g)(y4:DefAt K mg "check_lanes" yw yh fCheckL gCheckL)(yj:FnOk P w K mg base (CXr P w) 3 fCheckL gCheckL yh (YK CN))
  (y9:DefAt K mg "check_places" yG yk fCheck gCheck) (yp:FnOk P w K mg base (CXr P w) 2 fCheck gCheck yk (jh K CN)):FnOk P w K mg base (CXr P w) 4 f g M1 (Jx CN 2):=by
 refine d.F.okX y36 (fun vs H Q E h=> ?_) (fun cdv A outer s H vs Q E hr h=> ?_)
 ·obtain⟨n,l,ps,xs,rfl,hm,_⟩:=h
  show(xs.map V.int).length + 1 + 1=4
  rw [yc2]; omega
 obtain⟨n,l,ps,xs,rfl,hm,hL,hb,q⟩:=h
 obtain⟨x0,x1,rfl⟩:=QZ hm
 refine⟨_,(y7 (yl (yd yj (hr.mono (by decide)) rfl y4.m y4.F.kp y4.b .nil yF (y0 (pv 0) (y0 (pv 1) y3))))
   (y7 (yl (yd yp (hr.mono (by decide)) rfl y9.m y9.F.kp y9.b .nil yF (y0 (pv 0) (y0 (yZ (y0 (pv 2) (y0 (pv 3) y3))) y3))))
   Yb)),_,rfl,_,rfl,n,l,ps,rfl,hL,fun hin H1 s1=> ?_,fun _=>q⟩
 refine⟨_,rfl,_,rfl,_,rfl,(by show 2≤sizeLine; decide),fun a ha=>⟨n,a, [x0,x1],rfl, .inl (SqL.of y6),(by show 2≤1000; decide),fun hall=>absurd ⟨hin,hall⟩ hb,fun _ H2 s2=>q _ (s1.trans ((yb ha _).trans s2))⟩⟩
theorem y2s(d:DefAt K mg "joined" jP Vl f g)(y4:DefAt K mg "check_lanes" yw yh fCheckL gCheckL)(yj:FnOk P w K mg base (CXr P w) 3 fCheckL gCheckL yh (YK CN))
  (y9:DefAt K mg "check_places" yG yk fCheck gCheck) (yp:FnOk P w K mg base (CXr P w) 2 fCheck gCheck yk (jh K CN)):FnOk P w K mg base (CXr P w) 4 f g Vl (Jx CN 2):=by
 refine d.F.okX W3 (fun vs H Q E h=> ?_) (fun cdv A outer s H vs Q E hr h=> ?_)
 ·obtain⟨n,l,ps,xs,rfl,hm,_⟩:=h
  show(xs.map V.int).length + 1 + 1=4
  rw [yc2]; omega
 obtain⟨n,l,ps,xs,rfl,hm,hL,hb,q⟩:=h
 obtain⟨x0,x1,rfl⟩:=QZ hm
 refine⟨_,(y7 (yl (yd yj (hr.mono (by decide)) rfl y4.m y4.F.kp y4.b .nil yF (y0 (pv 0) (y0 (pv 1) y3))))
   (y7 (yl (yd yp (hr.mono (by decide)) rfl y9.m y9.F.kp y9.b .nil yF (y0 (pv 0) (y0 (yZ (y0 (pv 2) (y0 (pv 3) y3))) y3))))
   Yb)),_,rfl,_,rfl,n,l,ps,rfl,hL,fun hin H1 s1=> ?_,fun _=>q⟩
 refine⟨_,rfl,_,rfl,_,rfl,(by show 2≤sizeLine; decide),fun a ha=>⟨n,a, [x0,x1],rfl, .inl (SqL.of y6),(by show 2≤1000; decide),fun hall=>absurd ⟨hin,hall⟩ hb,fun _ H2 s2=>q _ (s1.trans ((yb ha _).trans s2))⟩⟩
theorem qD(d:DefAt K mg "round_trip" Jh JL f g)(y4:DefAt K mg "check_lanes" yw yh fCheckL gCheckL)(yj:FnOk P w K mg base (CXr P w) 3 fCheckL gCheckL yh (YK CN))
  (y9:DefAt K mg "check_places" yG yk fCheck gCheck) (yp:FnOk P w K mg base (CXr P w) 2 fCheck gCheck yk (jh K CN)):FnOk P w K mg base (CXr P w) 4 f g JL (Jx CN 2):=by
 refine d.F.okX VY (fun vs H Q E h=> ?_) (fun cdv A outer s H vs Q E hr h=> ?_)
 ·obtain⟨n,l,ps,xs,rfl,hm,_⟩:=h
  show(xs.map V.int).length + 1 + 1=4
  rw [yc2]; omega
 obtain⟨n,l,ps,xs,rfl,hm,hL,hb,q⟩:=h
 obtain⟨x0,x1,rfl⟩:=QZ hm
 refine⟨_,(y7 (yl (yd yj (hr.mono (by decide)) rfl y4.m y4.F.kp y4.b .nil yF (y0 (pv 0) (y0 (pv 1) y3))))
   (y7 (yl (yd yp (hr.mono (by decide)) rfl y9.m y9.F.kp y9.b .nil yF (y0 (pv 0) (y0 (yZ (y0 (pv 2) (y0 (pv 3) y3))) y3))))
   Yb)),_,rfl,_,rfl,n,l,ps,rfl,hL,fun hin H1 s1=> ?_,fun _=>q⟩
 refine⟨_,rfl,_,rfl,_,rfl,(by show 2≤sizeLine; decide),fun a ha=>⟨n,a, [x0,x1],rfl, .inl (SqL.of y6),(by show 2≤1000; decide),fun hall=>absurd ⟨hin,hall⟩ hb,fun _ H2 s2=>q _ (s1.trans ((yb ha _).trans s2))⟩⟩
theorem y1s(d:DefAt K mg "around" jT Ve f g)(y4:DefAt K mg "check_lanes" yw yh fCheckL gCheckL)(yj:FnOk P w K mg base (CXr P w) 3 fCheckL gCheckL yh (YK CN))
  (y9:DefAt K mg "check_places" yG yk fCheck gCheck) (yp:FnOk P w K mg base (CXr P w) 2 fCheck gCheck yk (jh K CN)):FnOk P w K mg base (CXr P w) 4 f g Ve (Jx CN 3):=by
 refine d.F.okX WO (fun vs H Q E h=> ?_) (fun cdv A outer s H vs Q E hr h=> ?_)
 ·obtain⟨n,l,ps,xs,rfl,hm,_⟩:=h
  show(xs.map V.int).length + 1 + 1=5
  rw [yc2]; omega
 obtain⟨n,l,ps,xs,rfl,hm,hL,hb,q⟩:=h
 obtain⟨x0,x1,x2,rfl⟩:=y70 hm
 refine⟨_,(y7 (yl (yd yj (hr.mono (by decide)) rfl y4.m y4.F.kp y4.b .nil yF (y0 (pv 0) (y0 (pv 1) y3))))
   (y7 (yl (yd yp (hr.mono (by decide)) rfl y9.m y9.F.kp y9.b .nil yF (y0 (pv 0) (y0 (yZ (y0 (pv 2) (y0 (pv 3) (y0 (pv 4) y3)))) y3))))
   Yb)),_,rfl,_,rfl,n,l,ps,rfl,hL,fun hin H1 s1=> ?_,fun _=>q⟩
 refine⟨_,rfl,_,rfl,_,rfl,_,rfl,(by show 3≤sizeLine; decide),fun a ha=>⟨n,a, [x0,x1,x2],rfl, .inl (SqL.of y6),(by show 3≤1000; decide),fun hall=>absurd ⟨hin,hall⟩ hb,fun _ H2 s2=>q _ (s1.trans ((yb ha _).trans s2))⟩⟩
theorem WV(d:DefAt K mg "leaders" Js Ja f g)(y4:DefAt K mg "check_lanes" yw yh fCheckL gCheckL)(yj:FnOk P w K mg base (CXr P w) 3 fCheckL gCheckL yh (YK CN))
  (y9:DefAt K mg "check_places" yG yk fCheck gCheck) (yp:FnOk P w K mg base (CXr P w) 2 fCheck gCheck yk (jh K CN)):FnOk P w K mg base (CXr P w) 4 f g Ja (Jx CN 1):=by
 refine d.F.okX jC (fun vs H Q E h=> ?_) (fun cdv A outer s H vs Q E hr h=> ?_)
 ·obtain⟨n,l,ps,xs,rfl,hm,_⟩:=h
  show(xs.map V.int).length + 1 + 1=3
  rw [yc2]; omega
 obtain⟨n,l,ps,xs,rfl,hm,hL,hb,q⟩:=h
 obtain⟨x0,rfl⟩:=y3e hm
 refine⟨_,(y7 (yl (yd yj (hr.mono (by decide)) rfl y4.m y4.F.kp y4.b .nil yF (y0 (pv 0) (y0 (pv 1) y3))))
   (y7 (yl (yd yp (hr.mono (by decide)) rfl y9.m y9.F.kp y9.b .nil yF (y0 (pv 0) (y0 (yZ (y0 (pv 2) y3)) y3))))
   Yb)),_,rfl,_,rfl,n,l,ps,rfl,hL,fun hin H1 s1=> ?_,fun _=>q⟩
 refine⟨_,rfl,_,rfl,(by show 1≤sizeLine; decide),fun a ha=>⟨n,a, [x0],rfl, .inl (SqL.of y6),(by show 1≤1000; decide),fun hall=>absurd ⟨hin,hall⟩ hb,fun _ H2 s2=>q _ (s1.trans ((yb ha _).trans s2))⟩⟩
theorem qP(d:DefAt K mg "place_told" Jf JN f g)(y4:DefAt K mg "check_lanes" yw yh fCheckL gCheckL)(yj:FnOk P w K mg base (CXr P w) 3 fCheckL gCheckL yh (YK CN))
  (y9:DefAt K mg "check_places" yG yk fCheck gCheck) (yp:FnOk P w K mg base (CXr P w) 2 fCheck gCheck yk (jh K CN)):FnOk P w K mg base (CXr P w) 4 f g JN (Jx CN 1):=by
 refine d.F.okX Q5 (fun vs H Q E h=> ?_) (fun cdv A outer s H vs Q E hr h=> ?_)
 ·obtain⟨n,l,ps,xs,rfl,hm,_⟩:=h
  show(xs.map V.int).length + 1 + 1=3
  rw [yc2]; omega
 obtain⟨n,l,ps,xs,rfl,hm,hL,hb,q⟩:=h
 obtain⟨x0,rfl⟩:=y3e hm
 refine⟨_,(y7 (yl (yd yj (hr.mono (by decide)) rfl y4.m y4.F.kp y4.b .nil yF (y0 (pv 0) (y0 (pv 1) y3))))
   (y7 (yl (yd yp (hr.mono (by decide)) rfl y9.m y9.F.kp y9.b .nil yF (y0 (pv 0) (y0 (yZ (y0 (pv 2) y3)) y3))))
   Yb)),_,rfl,_,rfl,n,l,ps,rfl,hL,fun hin H1 s1=> ?_,fun _=>q⟩
 refine⟨_,rfl,_,rfl,(by show 1≤sizeLine; decide),fun a ha=>⟨n,a, [x0],rfl, .inl (SqL.of y6),(by show 1≤1000; decide),fun hall=>absurd ⟨hin,hall⟩ hb,fun _ H2 s2=>q _ (s1.trans ((yb ha _).trans s2))⟩⟩
theorem y3p(d:DefAt K mg "musts" Vy L5 f g)(y9:DefAt K mg "check_places" yG yk fCheck gCheck)(yp:FnOk P w K mg base (CXr P w) 2 fCheck gCheck yk (jh K CN))(Yo:DefAt K mg "leaders" Js Ja fLead gLead)
  (LH:FnOk P w K mg base (CXr P w) 4 fLead gLead Ja (Jx CN 1)):FnOk P w K mg base (CXr P w) 5 f g L5 (Jx CN 2):=by
 refine d.F.okX Q2 (fun vs H Q E h=> ?_) (fun cdv A outer s H vs Q E hr h=> ?_)
 ·obtain⟨n,l,ps,xs,rfl,hm,_⟩:=h
  show(xs.map V.int).length + 1 + 1=4
  rw [yc2]; omega
 obtain⟨n,l,ps,xs,rfl,hm,hL,hb,q⟩:=h
 obtain⟨x0,x1,rfl⟩:=QZ hm
 refine⟨_,(y7 (yl (yd yp (hr.mono (by decide)) rfl y9.m y9.F.kp y9.b .nil yF (y0 (pv 0) (y0 (yZ (y0 (pv 3) y3)) y3))))
   (y7 (yB (i:=4) Q2.nd rfl (Or.inl rfl) (yd LH (hr.mono (by decide)) rfl Yo.m Yo.F.kp Yo.b .nil yF (y0 (pv 0) (y0 (pv 1) (y0 (pv 2) y3)))))
   Yb)),_,rfl,_,rfl,(by show 1≤sizeLine; decide),fun a ha=>⟨n,a, [x1],rfl, .inl (SqL.of y6),(by show 1≤1000; decide),fun hall H1 s1=> ?_,fun _ H2 s2=>q _ ((yb ha _).trans s2)⟩⟩
 have s2:=(yb ha _).trans s1
 refine⟨_,rfl,_,rfl,_,rfl,n,l,ps, [x0],rfl,rfl,hL.mono s2,fun z=>hb ⟨z.1,fun x hx=> ?_⟩,fun H2 s3=>q _ (s2.trans s3)⟩
 rcases ycg.mp hx with e | hx
 ·exact z.2 x (by rw [e]; exact yc8 ..)
 ·exact hall x hx
end
abbrev jN(a b:Sp):Sp:=fun vs H Q E=>a vs H Q E∨b vs H Q E
abbrev Pl(n x:Int):Prop:=0≤x∧x < n
def y17(CN CT T:Addr):Sp:=fun vs H Q E=>∃(way:Int) (n:Nat) (l:Addr) (ps:y8),vs= [.int way, .int (n:Int), .ref l]∧(0≤way∧way < 10)∧yo H l ps∧ps.length≤31∧n < 64∧Y7 H T Jy Jg∧
 (InR n ps→way ≠ 9→∀H',Kp H H'→Y7 H' T Jy Jg→Q .non H')∧(InR n ps→∀H',yg H H'→E (.ref CT) none H')∧(¬InR n ps→∀H',yg H H'→E (.ref CN) none H')
def Gd(way n:Int)(ps:y8)(one other gone:Int):Prop:=InR n ps∧Pl n one∧Pl n other∧(way=5→Pl n gone∧¬(gone=one∨gone=other))
def y8h(CN CW:Addr):Sp:=fun vs H Q E=>∃(way:Int) (n:Nat) (l:Addr) (ps:y8) (one other gone:Int),vs= [.int way, .int (n:Int), .ref l, .int one, .int other, .int gone]∧(0≤way∧way < 6)∧yo H l ps∧ps.length≤31∧n < 64∧
 (Gd way n ps one other gone→∀H',yg H H'→Q .non H')∧(Gd way n ps one other gone→∀H',yg H H'→E (.ref CW) none H')∧(¬Gd way n ps one other gone→∀H',yg H H'→E (.ref CN) none H')
def qU(way n:Int)(ps:y8)(one other gone:Int):Prop:=InR n ps∧(10≤way→Pl n one∧Pl n other)∧(way=15→Pl n gone∧¬(gone=one∨gone=other))
def y8e(T:Addr):Sp:=fun vs H Q _=>∃(way:Int) (n:Nat) (l:Addr) (ps:y8) (one other gone:Int) (due:Bool),vs= [.int way, .int (n:Int), .ref l, .int one, .int other, .int gone]∧(0≤way∧way < 16)∧yo H l ps∧ps.length≤31∧n < 64∧Y7 H T Jy Jg∧
 (due=false↔qU way n ps one other gone)∧∀H',Kp H H'→Y7 H' T Jy Jg→Q (.bl due) H'
def zw(T:Addr)(K:yc3):Sp:=fun vs H Q _=>∃(a:Addr) (ns:List Int),vs= [.ref a]∧SqL K H a (ns.map V.int)∧ns.length≤63∧Y7 H T Jy Jg∧∀H',Q (.bl true) H'
theorem MF{K:yc3}{C:Value}:yd7 K C C=some true:=by
 unfold yd7
 rw [if_pos (by simp)]
theorem JK{way k:Int}{p q:Prop}(h1:way=k→p)(h2:way ≠ k→q):if decide (V.int way=V.int k)=true then p else q:=
 Lj (fun c=>h1 (V.int.inj (of_decide_eq_true c))) (fun c=>h2 fun e=>c (decide_eq_true (congrArg V.int e)))
theorem ybs{c:Prop}[Decidable c]{t1:TS}{D:Ends}{σ:St}{H:Hp}(G:St→Hp→Prop)(h1:(∀σ' H',G σ' H'→D.nx σ' H')→c→t1 D σ H)(h2:¬c→G σ H)(key:∀σ' H',G σ' H'→D.nx σ' H'):if c then t1 D σ H else y2n D σ H:=by
 by_cases hc:c
 ·rw [if_pos hc]
  exact h1 key hc
 ·rw [if_neg hc]
  exact key _ _ (h2 hc)
theorem yar(ns:List Int):∃ms:List Int,V7 (ns.map V.int) (some 2) (some 32)=ms.map V.int∧ms.length≤30:=by
 unfold V7
 refine⟨(ns.drop (HT.sIx (ns.map V.int).length 0 (some 2))).take (HT.sIx (ns.map V.int).length (ns.map V.int).length (some 32) - HT.sIx (ns.map V.int).length 0 (some 2)),by rw [yhd,yhc], ?_⟩
 have e1:HT.sIx (ns.map V.int).length 0 (some 2)=min 2 (ns.map V.int).length:=HT.sIx_nat _ _ 2
 have e2:HT.sIx (ns.map V.int).length (ns.map V.int).length (some 32)=min 32 (ns.map V.int).length:=HT.sIx_nat _ _ 32
 rw [yd4,ydt,e1,e2,yc2]
 omega
theorem yb9{α:Type}{a b c d e f:α}{i:Int}(h:0≤i∧i < 6):∃x,(x=a∨x=b∨x=c∨x=d∨x=e∨x=f)∧atI [a,b,c,d,e,f] i=some x:=by
 have:i=0∨i=1∨i=2∨i=3∨i=4∨i=5:=by omega
 rcases this with e | e | e | e | e | e <;> subst e
 ·exact⟨a, .inl rfl,rfl⟩
 ·exact⟨b, .inr (.inl rfl),rfl⟩
 ·exact⟨c, .inr (.inr (.inl rfl)),rfl⟩
 ·exact⟨d, .inr (.inr (.inr (.inl rfl))),rfl⟩
 ·exact⟨_, .inr (.inr (.inr (.inr (.inl rfl)))),rfl⟩
 ·exact⟨f, .inr (.inr (.inr (.inr (.inr rfl)))),rfl⟩
theorem Z9{F:Addr→Int × Int→Prop}{a:Addr}{p:Int × Int}(h:F a p):∀{as:List Addr} {ps:y8} (i:Nat),Paired F as ps→Paired F (as.take i ++ a :: as.drop i) (ps.take i ++ p :: ps.drop i)
 | _,_,0,t=> .cons h t
 | _,_,_ + 1, .nil=> .cons h .nil
 | _,_,i + 1, .cons x t=> .cons x (Z9 h i t)
section
variable{P:Program}{w:World}{K:yc3}{mg:Str→Option Value}{base:Heap}{CN CT CW T:Addr}
variable{fIW fIS fPa fNu fBe fDe fDp fBr fCu fTi fWa fJo fTr fMu fLe fPT fAr fAl fTwo fRef fUpto fAt fLanesBy fSame fLaw:Addr}{gIW gIS gPa gNu gBe gDe gDp gBr gCu gTi gWa gJo gTr gMu gLe gPT gAr gAl gTwo gRef gUpto gAt gLanesBy gSame gLaw:FuncData}
theorem y5x(d:DefAt K mg "_law_alone" Vk LB fAl gAl)
  (VQ:DefAt K mg "is_walk" jq Vf fIW gIW) (y9s:FnOk P w K mg base (CXr P w) 4 fIW gIW Vf (jN zO (Yi CN 1)))
  (VO:DefAt K mg "is_shut" JX Vj fIS gIS) (ya9:FnOk P w K mg base (CXr P w) 4 fIS gIS Vj (jN y42 (Yi CN 1)))
  (Yk:DefAt K mg "parts" J3 JJ fPa gPa) (Vx:FnOk P w K mg base (CXr P w) 4 fPa gPa JJ (jN (ZL T) (Yi CN 0)))
  (yY:DefAt K mg "part_numbers" Yr Yl fNu gNu) (jH:FnOk P w K mg base (CXr P w) 5 fNu gNu Yl (jN (zD T) (Yi CN 0)))
  (Yc:DefAt K mg "between_parts" Yd Yu fBe gBe) (L9:FnOk P w K mg base (CXr P w) 6 fBe gBe Yu (jN (zV T) (Yi CN 0)))
  (VR:DefAt K mg "depths" jt Vd fDe gDe) (y93:FnOk P w K mg base (CXr P w) 8 fDe gDe Vd (jN (Wh T) (Yi CN 0)))
  (V9:DefAt K mg "deepest" jc jF fDp gDp) (y6u:FnOk P w K mg base (CXr P w) 8 fDp gDp jF (jN (xy T) (Yi CN 0)))
  (V3:DefAt K mg "bridges" JS jE fBr gBr) (y7h:FnOk P w K mg base (CXr P w) 5 fBr gBr jE (jN xc (Yi CN 0)))
  (ji:DefAt K mg "cut_places" J1 JO fCu gCu) (y1t:FnOk P w K mg base (CXr P w) 4 fCu gCu JO (jN y49 (Yi CN 0)))
  (V2:DefAt K mg "tie_told" j9 jB fTi gTi) (y7l:FnOk P w K mg base (CXr P w) 5 fTi gTi jB (jN (y87 CT) (Yi CN 1))) :
  FnOk P w K mg base (CXr P w) 9 fAl gAl LB (y17 CN CT T):=by
 refine d.F.okX y6o (fun vs H Q E h=> ?_) (fun cdv A outer s H vs Q E hr h=> ?_)
 ·obtain⟨way,n,l,ps,rfl,_⟩:=h
  rfl
 obtain⟨way,n,l,ps,rfl,hw,hL,hlen,hn,hT,q,qt,qe⟩:=h
 have k0:∀H',yg H H'→InR n ps→way ≠ 9→Q .non H':=fun H' s' c w9=>q c w9 H' (Kp.of s') (hT.same s')
 refine⟨_,(yc (yP (yt Y1 (pv 0) ye (yx _)) (yc (yl (yd y9s (hr.mono (by decide)) rfl VQ.m VQ.F.kp VQ.b .nil yF (y0 (pv 1) (y0 (pv 2) (y0 (yZ (y0 ye y3)) y3)))))) (yc (yP (yt Y1 (pv 0) ye (yx _)) (yc (yl (yd ya9 (hr.mono (by decide)) rfl VO.m VO.F.kp VO.b .nil yF (y0 (pv 1) (y0 (pv 2) (y0 (yZ y3) y3)))))) (yc (yP (yt Y1 (pv 0) ye (yx _)) (yc (yl (yd Vx (hr.mono (by decide)) rfl Yk.m Yk.F.kp Yk.b .nil yF (y0 (pv 1) (y0 (pv 2) y3))))) (yc (yP (yt Y1 (pv 0) ye (yx _)) (yc (yl (yd jH (hr.mono (by decide)) rfl yY.m yY.F.kp yY.b .nil yF (y0 (pv 1) (y0 (pv 2) y3))))) (yc (yP (yt Y1 (pv 0) ye (yx _)) (yc (yl (yd L9 (hr.mono (by decide)) rfl Yc.m Yc.F.kp Yc.b .nil yF (y0 (pv 1) (y0 (pv 2) y3))))) (yc (yP (yt Y1 (pv 0) ye (yx _)) (yc (yl (yd y93 (hr.mono (by decide)) rfl VR.m VR.F.kp VR.b .nil yF (y0 (pv 1) (y0 (pv 2) y3))))) (yc (yP (yt Y1 (pv 0) ye (yx _)) (yc (yl (yd y6u (hr.mono (by decide)) rfl V9.m V9.F.kp V9.b .nil yF (y0 (pv 1) (y0 (pv 2) y3))))) (yc (yP (yt Y1 (pv 0) ye (yx _)) (yc (yl (yd y7h (hr.mono (by decide)) rfl V3.m V3.F.kp V3.b .nil yF (y0 (pv 1) (y0 (pv 2) y3))))) (yc (yP (yt Y1 (pv 0) ye (yx _)) (yc (yl (yd y1t (hr.mono (by decide)) rfl ji.m ji.F.kp ji.b .nil yF (y0 (pv 1) (y0 (pv 2) y3))))) (yc (yl (yd y7l (hr.mono (by decide)) rfl V2.m V2.F.kp V2.b .nil yF (y0 (pv 1) (y0 (pv 2) (y0 (M8 L6 ye) y3)))))))))))))))))))))))), ?_⟩
 refine⟨_,rfl,rfl,_,rfl,JK (fun w0=> ?_) (fun w0=> ?_)⟩
 ·refine⟨_,rfl,_,rfl,(by show 1≤sizeLine; decide),fun a ha=> ?_⟩
  have sa:=yb ha (.lst [.int 0])
  by_cases c:InR n ps
  ·exact .inl ⟨n,l,a,ps, [0],rfl,hL.mono sa,by omega,c,y6,(by decide),⟨[],yfd,fun e he=>(by cases he),yd9 _⟩,fun H' s'=>k0 H' (sa.trans s') c (by omega)⟩
  ·exact .inr ⟨n,l,ps, [.ref a],rfl,rfl,hL.mono sa,c,fun H' s'=>qe c H' (sa.trans s')⟩
 refine⟨_,rfl,rfl,_,rfl,JK (fun w1=> ?_) (fun w1=> ?_)⟩
 ·refine⟨_,rfl,_,rfl,(by show 0≤sizeLine; decide),fun a ha=> ?_⟩
  have sa:=yb ha (.lst [])
  by_cases c:InR n ps
  ·exact .inl ⟨n,l,a,ps, [],rfl,hL.mono sa,by omega,c,y6,(by decide),fun H' s'=>k0 H' (sa.trans s') c (by omega)⟩
  ·exact .inr ⟨n,l,ps, [.ref a],rfl,rfl,hL.mono sa,c,fun H' s'=>qe c H' (sa.trans s')⟩
 refine⟨_,rfl,rfl,_,rfl,JK (fun w2=> ?_) (fun w2=> ?_)⟩
 ·refine⟨_,rfl,_,rfl, ?_⟩
  by_cases c:InR n ps
  ·exact .inl ⟨n,l,ps,rfl,hL,by omega,c,hn,hT,fun r qs F H' s' hT' _ _ _ _=>q c (by omega) H' (Kp.t hT s') hT'⟩
  ·exact .inr ⟨n,l,ps, [],rfl,rfl,hL,c,fun H' s'=>qe c H' s'⟩
 refine⟨_,rfl,rfl,_,rfl,JK (fun w3=> ?_) (fun w3=> ?_)⟩
 ·refine⟨_,rfl,_,rfl, ?_⟩
  by_cases c:InR n ps
  ·exact .inl ⟨n,l,ps,rfl,hL,by omega,c,hn,hT,fun r H' k' hT' _ _=>q c (by omega) H' k' hT'⟩
  ·exact .inr ⟨n,l,ps, [],rfl,rfl,hL,c,fun H' s'=>qe c H' s'⟩
 refine⟨_,rfl,rfl,_,rfl,JK (fun w4=> ?_) (fun w4=> ?_)⟩
 ·refine⟨_,rfl,_,rfl, ?_⟩
  by_cases c:InR n ps
  ·exact .inl ⟨n,l,ps,rfl,hL,by omega,c,hn,hT,fun r zs H' k' hT' _ _ _ _ _ _ _=>q c (by omega) H' k' hT'⟩
  ·exact .inr ⟨n,l,ps, [],rfl,rfl,hL,c,fun H' s'=>qe c H' s'⟩
 refine⟨_,rfl,rfl,_,rfl,JK (fun w5=> ?_) (fun w5=> ?_)⟩
 ·refine⟨_,rfl,_,rfl, ?_⟩
  by_cases c:InR n ps
  ·exact .inl ⟨n,l,ps,rfl,hL,by omega,c,hn,hT,fun r D H' k' hT' _ _=>q c (by omega) H' k' hT'⟩
  ·exact .inr ⟨n,l,ps, [],rfl,rfl,hL,c,fun H' s'=>qe c H' s'⟩
 refine⟨_,rfl,rfl,_,rfl,JK (fun w6=> ?_) (fun w6=> ?_)⟩
 ·refine⟨_,rfl,_,rfl, ?_⟩
  by_cases c:InR n ps
  ·exact .inl ⟨n,l,ps,rfl,hL,by omega,c,hn,hT,fun r R H' k' hT' _ _ _=>q c (by omega) H' k' hT'⟩
  ·exact .inr ⟨n,l,ps, [],rfl,rfl,hL,c,fun H' s'=>qe c H' s'⟩
 refine⟨_,rfl,rfl,_,rfl,JK (fun w7=> ?_) (fun w7=> ?_)⟩
 ·refine⟨_,rfl,_,rfl, ?_⟩
  by_cases c:InR n ps
  ·exact .inl ⟨l,ps,n,rfl,hL,by omega,c,hn,fun r H' s' _=>k0 H' s' c (by omega)⟩
  ·exact .inr ⟨n,l,ps, [],rfl,rfl,hL,c,fun H' s'=>qe c H' s'⟩
 refine⟨_,rfl,rfl,_,rfl,JK (fun w8=> ?_) (fun w8=> ?_)⟩
 ·refine⟨_,rfl,_,rfl, ?_⟩
  by_cases c:InR n ps
  ·exact .inl ⟨n,l,ps,rfl,hL,by omega,c,hn,fun r H' s' _=>k0 H' s' c (by omega)⟩
  ·exact .inr ⟨n,l,ps, [],rfl,rfl,hL,c,fun H' s'=>qe c H' s'⟩
 refine⟨_,rfl,_,rfl,_,rfl, ?_⟩
 by_cases c:InR n ps
 ·exact .inl ⟨n,l,ps, -1,rfl,hL,by omega,c,by omega,fun _ H' s'=>qt c H' s',fun p h0=>absurd h0 (by decide)⟩
 ·exact .inr ⟨n,l,ps, [.int (-1)],rfl,rfl,hL,c,fun H' s'=>qe c H' s'⟩
theorem yaz(d:DefAt K mg "_law_with_two" j6 Vo fTwo gTwo)
  (MY:DefAt K mg "walk" Lq M1 fWa gWa) (GWalk:FnOk P w K mg base (CXr P w) 4 fWa gWa M1 (jN y3m (Jx CN 2)))
  (VP:DefAt K mg "joined" jP Vl fJo gJo) (y8m:FnOk P w K mg base (CXr P w) 4 fJo gJo Vl (jN zF (Jx CN 2)))
  (jg:DefAt K mg "round_trip" Jh JL fTr gTr) (y24:FnOk P w K mg base (CXr P w) 4 fTr gTr JL (jN y3n (Jx CN 2)))
  (LG:DefAt K mg "musts" Vy L5 fMu gMu) (ybk:FnOk P w K mg base (CXr P w) 5 fMu gMu L5 (jN (zA CW) (Jx CN 2)))
  (Yo:DefAt K mg "leaders" Js Ja fLe gLe) (LH:FnOk P w K mg base (CXr P w) 4 fLe gLe Ja (jN Zj (Jx CN 1)))
  (ja:DefAt K mg "place_told" Jf JN fPT gPT) (y2i:FnOk P w K mg base (CXr P w) 4 fPT gPT JN (jN y1j (Jx CN 1)))
  (VS:DefAt K mg "around" jT Ve fAr gAr) (y8j:FnOk P w K mg base (CXr P w) 4 fAr gAr Ve (jN (zB CN) (Jx CN 3))) :
  FnOk P w K mg base (CXr P w) 6 fTwo gTwo Vo (y8h CN CW):=by
 refine d.F.okX y2k (fun vs H Q E h=> ?_) (fun cdv A outer s H vs Q E hr h=> ?_)
 ·obtain⟨way,n,l,ps,one,other,gone,rfl,_⟩:=h
  rfl
 obtain⟨way,n,l,ps,one,other,gone,rfl,hw,hL,hlen,hn,q,qw,qe⟩:=h
 refine⟨_,(yc (yP (yt Y1 (pv 0) ye (yx _)) (yc (yl (yd GWalk (hr.mono (by decide)) rfl MY.m MY.F.kp MY.b .nil yF (y0 (pv 1) (y0 (pv 2) (y0 (pv 3) (y0 (pv 4) y3))))))) (yc (yP (yt Y1 (pv 0) ye (yx _)) (yc (yl (yd y8m (hr.mono (by decide)) rfl VP.m VP.F.kp VP.b .nil yF (y0 (pv 1) (y0 (pv 2) (y0 (pv 3) (y0 (pv 4) y3))))))) (yc (yP (yt Y1 (pv 0) ye (yx _)) (yc (yl (yd y24 (hr.mono (by decide)) rfl jg.m jg.F.kp jg.b .nil yF (y0 (pv 1) (y0 (pv 2) (y0 (pv 3) (y0 (pv 4) y3))))))) (yc (yP (yt Y1 (pv 0) ye (yx _)) (yc (yl (yd ybk (hr.mono (by decide)) rfl LG.m LG.F.kp LG.b .nil yF (y0 (pv 1) (y0 (pv 2) (y0 (pv 3) (y0 (pv 4) y3))))))) (yc (yP (yt Y1 (pv 0) ye (yx _)) (y7 (yl (yd LH (hr.mono (by decide)) rfl Yo.m Yo.F.kp Yo.b .nil yF (y0 (pv 1) (y0 (pv 2) (y0 (pv 3) y3)))))
   (yc (yl (yd y2i (hr.mono (by decide)) rfl ja.m ja.F.kp ja.b .nil yF (y0 (pv 1) (y0 (pv 2) (y0 (pv 4) y3))))))) (yc (yl (yd y8j (hr.mono (by decide)) rfl VS.m VS.F.kp VS.b .nil yF (y0 (pv 1) (y0 (pv 2) (y0 (pv 3) (y0 (pv 4) (y0 (pv 5) y3)))))))))))))))))), ?_⟩
 refine⟨_,rfl,rfl,_,rfl,JK (fun w0=> ?_) (fun w0=> ?_)⟩
 ·refine⟨_,rfl,_,rfl,_,rfl,_,rfl, ?_⟩
  by_cases c:InR n ps∧Pl n one∧Pl n other
  ·have g:Gd way n ps one other gone:=⟨c.1,c.2.1,c.2.2,fun w5=>(by omega)⟩
   exact .inl ⟨n,l,ps,one,other,rfl,hL,by omega,c.1,c.2.1,c.2.2,by omega,fun p H' s' _=>q g H' s'⟩
  ·exact .inr ⟨n,l,ps, [one,other],rfl,rfl,hL,fun z=>c ⟨z.1,z.2 one (by simp),z.2 other (by simp)⟩,fun H' s'=>qe (fun g=>c ⟨g.1,g.2.1,g.2.2.1⟩) H' s'⟩
 refine⟨_,rfl,rfl,_,rfl,JK (fun w1=> ?_) (fun w1=> ?_)⟩
 ·refine⟨_,rfl,_,rfl,_,rfl,_,rfl, ?_⟩
  by_cases c:InR n ps∧Pl n one∧Pl n other
  ·have g:Gd way n ps one other gone:=⟨c.1,c.2.1,c.2.2,fun w5=>(by omega)⟩
   exact .inl ⟨n,l,ps,one,other,rfl,hL,by omega,c.1,c.2.1,c.2.2,by omega,fun p H' s' _=>q g H' s'⟩
  ·exact .inr ⟨n,l,ps, [one,other],rfl,rfl,hL,fun z=>c ⟨z.1,z.2 one (by simp),z.2 other (by simp)⟩,fun H' s'=>qe (fun g=>c ⟨g.1,g.2.1,g.2.2.1⟩) H' s'⟩
 refine⟨_,rfl,rfl,_,rfl,JK (fun w2=> ?_) (fun w2=> ?_)⟩
 ·refine⟨_,rfl,_,rfl,_,rfl,_,rfl, ?_⟩
  by_cases c:InR n ps∧Pl n one∧Pl n other
  ·have g:Gd way n ps one other gone:=⟨c.1,c.2.1,c.2.2,fun w5=>(by omega)⟩
   exact .inl ⟨n,l,ps,one,other,rfl,hL,by omega,c.1,c.2.1,c.2.2,by omega,fun p H' s' _=>q g H' s'⟩
  ·exact .inr ⟨n,l,ps, [one,other],rfl,rfl,hL,fun z=>c ⟨z.1,z.2 one (by simp),z.2 other (by simp)⟩,fun H' s'=>qe (fun g=>c ⟨g.1,g.2.1,g.2.2.1⟩) H' s'⟩
 refine⟨_,rfl,rfl,_,rfl,JK (fun w3=> ?_) (fun w3=> ?_)⟩
 ·refine⟨_,rfl,_,rfl,_,rfl,_,rfl, ?_⟩
  by_cases c:InR n ps∧Pl n one∧Pl n other
  ·have g:Gd way n ps one other gone:=⟨c.1,c.2.1,c.2.2,fun w5=>(by omega)⟩
   exact .inl ⟨n,l,ps,one,other,rfl,hL,by omega,c.1,c.2.1,c.2.2,hn,fun _ H' s'=>qw g H' s',fun _ r row H' s' _ _ _=>q g H' s'⟩
  ·exact .inr ⟨n,l,ps, [one,other],rfl,rfl,hL,fun z=>c ⟨z.1,z.2 one (by simp),z.2 other (by simp)⟩,fun H' s'=>qe (fun g=>c ⟨g.1,g.2.1,g.2.2.1⟩) H' s'⟩
 refine⟨_,rfl,rfl,_,rfl,JK (fun w4=> ?_) (fun w4=> ?_)⟩
 ·refine⟨_,rfl,_,rfl,_,rfl, ?_⟩
  by_cases c:InR n ps∧Pl n one
  ·refine .inl ⟨n,l,ps,one,rfl,hL,by omega,c.1,c.2,by omega,fun r Ls H1 s1 _ _ _=> ?_⟩
   refine⟨_,rfl,_,rfl,_,rfl, ?_⟩
   by_cases c2:Pl n other
   ·exact .inl ⟨n,l,ps,other,rfl,hL.mono s1,by omega,c.1,c2,by omega,fun p H' s' _=>q ⟨c.1,c.2,c2,fun w5=>(by omega)⟩ H' (s1.trans s')⟩
   ·exact .inr ⟨n,l,ps, [other],rfl,rfl,hL.mono s1,fun z=>c2 (z.2 other (by simp)),fun H' s'=>qe (fun g=>c2 g.2.2.1) H' (s1.trans s')⟩
  ·exact .inr ⟨n,l,ps, [one],rfl,rfl,hL,fun z=>c ⟨z.1,z.2 one (by simp)⟩,fun H' s'=>qe (fun g=>c ⟨g.1,g.2.1⟩) H' s'⟩
 refine⟨_,rfl,_,rfl,_,rfl,_,rfl,_,rfl, ?_⟩
 have w5:way=5:=by omega
 by_cases c:InR n ps∧Pl n one∧Pl n other∧Pl n gone
 ·exact .inl ⟨n,l,ps,one,other,gone,rfl,hL,by omega,c.1,c.2.1,c.2.2.1,c.2.2.2,by omega,fun e H' s'=>qe (fun g=>(g.2.2.2 w5).2 e) H' s',fun e p H' s' _=>q ⟨c.1,c.2.1,c.2.2.1,fun _=>⟨c.2.2.2,e⟩⟩ H' s'⟩
 ·exact .inr ⟨n,l,ps, [one,other,gone],rfl,rfl,hL,fun z=>c ⟨z.1,z.2 one (by simp),z.2 other (by simp),z.2 gone (by simp)⟩,fun H' s'=>qe (fun g=>c ⟨g.1,g.2.1,g.2.2.1,(g.2.2.2 w5).1⟩) H' s'⟩
theorem y2m{CNoPlace CNoWay CNoTie CLaneError:Addr}(z:Zs mg)(cNoPlace:ClsAt K mg "NoPlace" CNoPlace)(cNoWay:ClsAt K mg "NoWay" CNoWay)(cNoTie:ClsAt K mg "NoTie" CNoTie)(cLaneError:ClsAt K mg "LaneError" CLaneError)
  (m_NoPlace:yfc K (.ref CNoPlace) (.ref CLaneError)=some true) (i_NoPlace:yd7 K (.ref CNoPlace) (.type "ValueError")=some true)
  (m_NoWay:yfc K (.ref CNoWay) (.ref CLaneError)=some true) (i_NoWay:yd7 K (.ref CNoWay) (.type "ValueError")=some true)
  (m_NoTie:yfc K (.ref CNoTie) (.ref CLaneError)=some true) (i_NoTie:yd7 K (.ref CNoTie) (.type "ValueError")=some true)
  (xW:ExC K CNoWay) (xT:ExC K CNoTie) (o_WP:yd7 K (.ref CNoWay) (.ref CNoPlace)=some false) (o_TP:yd7 K (.ref CNoTie) (.ref CNoPlace)=some false) (o_TW:yd7 K (.ref CNoTie) (.ref CNoWay)=some false)
  (d:DefAt K mg "_law_refuses" j7 Vh fRef gRef) (LA:DefAt K mg "_law_alone" Vk LB fAl gAl) (y8z:FnOk P w K mg base (CXr P w) 9 fAl gAl LB (y17 CNoPlace CNoTie T))
  (Vi:DefAt K mg "_law_with_two" j6 Vo fTwo gTwo) (y3c:FnOk P w K mg base (CXr P w) 6 fTwo gTwo Vo (y8h CNoPlace CNoWay)):FnOk P w K mg base CX0 10 fRef gRef Vh (y8e T):=by
 refine d.F.ok QX (fun vs H Q E h=> ?_) (fun cdv A outer s H vs Q E hr h=> ?_)
 ·obtain⟨way,n,l,ps,one,other,gone,due,rfl,_⟩:=h
  rfl
 obtain⟨way,n,l,ps,one,other,gone,due,rfl,hw,hL,hlen,hn,hT,hd,q⟩:=h
 have qF:qU way n ps one other gone→∀H',Kp H H'→Y7 H' T Jy Jg→Q (.bl false) H':=fun g=>by
  have e:=hd.mpr g
  subst e
  exact q
 have qT:¬qU way n ps one other gone→∀H',Kp H H'→Y7 H' T Jy Jg→Q (.bl true) H':=fun g=>by
  cases due with
  | true=>exact q
  | false=>exact absurd (hd.mp rfl) g
 refine⟨_,(y7 (y5d (j:=6) (hc:= .ref CLaneError) (yt MM (pv 0) ye (yx _)) y8z (hr.mono (by decide)) rfl LA.m LA.F.kp LA.b (y0 (pv 0) (y0 (pv 1) (y0 (pv 2) y3))) y3c (hr.mono (by decide)) rfl Vi.m Vi.F.kp Vi.b (y0 (yN WQ (pv 0) ye) (y0 (pv 1) (y0 (pv 2) (y0 (pv 3) (y0 (pv 4) (y0 (pv 5) y3)))))) rfl rfl rfl QX.nd rfl rfl (fun I h=>y5r I rfl cLaneError.m h) (fun _=>(y7 (yP (PW.pt (L4 (Jv (yC (Jo (K:=K) rfl) rfl z.isinstance Yw (y0 (pv 6) (y0 (qS (v:= .ref CNoPlace) rfl cNoPlace.m rfl) y3)))) (Vs (Jv (yC (Jo (K:=K) rfl) rfl z.isinstance Yw (y0 (pv 6) (y0 (VJ (v:= .ty "ValueError") rfl z.ValueError Li rfl) y3))))))) (yc (yy jy)) yQ)
   (y7 (yP (PW.pt (L4 (Jv (yC (Jo (K:=K) rfl) rfl z.isinstance Yw (y0 (pv 6) (y0 (qS (v:= .ref CNoWay) rfl cNoWay.m rfl) y3)))) (Vs (Jv (yC (Jo (K:=K) rfl) rfl z.isinstance Yw (y0 (pv 6) (y0 (VJ (v:= .ty "ValueError") rfl z.ValueError Li rfl) y3))))))) (yc (yy jy)) yQ)
   (y7 (yP (PW.pt (L4 (Jv (yC (Jo (K:=K) rfl) rfl z.isinstance Yw (y0 (pv 6) (y0 (qS (v:= .ref CNoTie) rfl cNoTie.m rfl) y3)))) (Vs (Jv (yC (Jo (K:=K) rfl) rfl z.isinstance Yw (y0 (pv 6) (y0 (VJ (v:= .ty "ValueError") rfl z.ValueError Li rfl) y3))))))) (yc (yy jy)) yQ)
   (yc (yy jy)))))))
   (yc (yy jy))), ?_⟩
 refine⟨_,rfl,_,_,rfl,rfl,_,rfl,Lj (fun c=> ?_) (fun c=> ?_)⟩
 ·have c':way < 10:=of_decide_eq_true c
  refine⟨_,rfl,_,rfl,_,rfl,way,n,l,ps,rfl,⟨hw.1,c'⟩,hL,hlen,hn,hT,fun hin _ H' k' hT'=> ?_,fun hin H' s'=>⟨m_NoTie,fun a ha=> ?_⟩,fun hin H' s'=>⟨m_NoPlace,fun a ha=> ?_⟩⟩
  ·exact qF ⟨hin,fun h=>absurd h (by omega),fun h=>absurd h (by omega)⟩ H' k' hT'
  ·have s2:=s'.trans (yb ha (MI a (.ref CNoTie)))
   refine⟨_,rfl,a, .ref CNoPlace,_,_,false,rfl,rfl,y6,o_TP,fun _=>⟨_,rfl,xT⟩,_,rfl,Y0 (Y0 ?_)⟩
   refine⟨_,rfl,a, .ref CNoWay,_,_,false,rfl,rfl,y6,o_TW,fun _=>⟨_,rfl,xT⟩,_,rfl,Y0 (Y0 ?_)⟩
   refine⟨_,rfl,a, .ref CNoTie,_,_,true,rfl,rfl,y6,MF,fun z=>(by cases z),_,rfl,yT ⟨_,rfl,a, .ty "ValueError",_,_,true,rfl,rfl,y6,i_NoTie,fun z=>(by cases z),_,rfl,yT ?_⟩⟩
   exact qF ⟨hin,fun h=>absurd h (by omega),fun h=>absurd h (by omega)⟩ _ (Kp.of s2) (hT.same s2)
  ·have s2:=s'.trans (yb ha (MI a (.ref CNoPlace)))
   refine⟨_,rfl,a, .ref CNoPlace,_,_,true,rfl,rfl,y6,MF,fun z=>(by cases z),_,rfl,yT ⟨_,rfl,a, .ty "ValueError",_,_,true,rfl,rfl,y6,i_NoPlace,fun z=>(by cases z),_,rfl,yT ?_⟩⟩
   exact qT (fun g=>hin g.1) _ (Kp.of s2) (hT.same s2)
 ·have c':¬way < 10:=of_decide_eq_false (ydh.mpr c)
  have g1:Gd (way - 10) n ps one other gone→qU way n ps one other gone:=fun g=>⟨g.1,fun _=>⟨g.2.1,g.2.2.1⟩,fun h=>g.2.2.2 (by omega)⟩
  have g2:qU way n ps one other gone→Gd (way - 10) n ps one other gone:=fun g=>⟨g.1,(g.2.1 (by omega)).1,(g.2.1 (by omega)).2,fun h=>g.2.2 (by omega)⟩
  refine⟨_,rfl,_,_,rfl,rfl,_,rfl,_,rfl,_,rfl,_,rfl,_,rfl,way - 10,n,l,ps,one,other,gone,rfl,⟨by omega,by omega⟩,hL,hlen,hn,fun g H' s'=> ?_,fun g H' s'=>⟨m_NoWay,fun a ha=> ?_⟩,fun g H' s'=>⟨m_NoPlace,fun a ha=> ?_⟩⟩
  ·exact qF (g1 g) H' (Kp.of s') (hT.same s')
  ·have s2:=s'.trans (yb ha (MI a (.ref CNoWay)))
   refine⟨_,rfl,a, .ref CNoPlace,_,_,false,rfl,rfl,y6,o_WP,fun _=>⟨_,rfl,xW⟩,_,rfl,Y0 (Y0 ?_)⟩
   refine⟨_,rfl,a, .ref CNoWay,_,_,true,rfl,rfl,y6,MF,fun z=>(by cases z),_,rfl,yT ⟨_,rfl,a, .ty "ValueError",_,_,true,rfl,rfl,y6,i_NoWay,fun z=>(by cases z),_,rfl,yT ?_⟩⟩
   exact qF (g1 g) _ (Kp.of s2) (hT.same s2)
  ·have s2:=s'.trans (yb ha (MI a (.ref CNoPlace)))
   refine⟨_,rfl,a, .ref CNoPlace,_,_,true,rfl,rfl,y6,MF,fun z=>(by cases z),_,rfl,yT ⟨_,rfl,a, .ty "ValueError",_,_,true,rfl,rfl,y6,i_NoPlace,fun z=>(by cases z),_,rfl,yT ?_⟩⟩
   exact qT (fun f=>g (g2 f)) _ (Kp.of s2) (hT.same s2)
end
theorem y9r{H:Hp}{T l:Addr}{pos:Pos}{q:Str}{xs ys:List V}(x:Y7 H T pos q)(h:H l=some (.lst xs)):Y7 (upd H l (.lst ys)) T pos q:=by
 obtain⟨ps,h1,h2,h3⟩:=x
 refine⟨ps,by rw [yi (M5 h1 h (by intro z; cases z))]; exact h1,h2,h3.imp id ?_⟩
 rintro⟨c,e1,e2⟩
 exact⟨c,e1,by rw [yi (M5 e2 h (by intro z; cases z))]; exact e2⟩
theorem Ww{H:Hp}{l t:Addr}{as:List Addr}{ps:y8}{p:Int × Int}(hl:H l=some (.lst (as.map V.ref)))(hp:Paired (fun a p=>H a=some (.tup (pr p))) as ps)(ht:H t=some (.tup (pr p)))(i:Nat) :
  yo (upd H l (.lst ((as.map V.ref).take i ++ V.ref t :: (as.map V.ref).drop i))) l (ps.take i ++ p :: ps.drop i):=by
 refine⟨as.take i ++ t :: as.drop i,by rw [y6,yci,ycv,yhd,yhc], ?_⟩
 have k:∀a (q:Int × Int),H a=some (.tup (pr q))→(upd H l (.lst ((as.map V.ref).take i ++ V.ref t :: (as.map V.ref).drop i))) a=some (.tup (pr q)):=fun a q e=>by
  rw [yi (M5 e hl (by intro z; cases z))]; exact e
 exact Z9 (k t p ht) i (Paired.mapP hp k)
theorem dvi{a b:Int}:decide (V.int a=V.int b)=true↔a=b:=by
 rw [decide_eq_true_iff]
 exact⟨fun e=>V.int.inj e,fun e=>congrArg V.int e⟩
theorem y5w{way n seed one other gone:Int}{ps:y8}{dd:Bool}(h:dd=true↔((seed % 5=1∨(9 < way∧(seed % 5=2∨seed % 5=3)))∨(way=15∧(seed % 5=4∨gone=one∨gone=other))))
  (hin:InR n ps↔seed % 5 ≠ 1) (q1:Pl n one↔seed % 5 ≠ 2) (q2:Pl n other↔seed % 5 ≠ 3) (q4:Pl n gone↔seed % 5 ≠ 4):dd=false↔qU way n ps one other gone:=by
 have e:dd=false↔¬dd=true:=by cases dd <;> simp
 rw [e,h]
 constructor
 ·intro hn
  exact⟨hin.mpr fun e=>hn (.inl (.inl e)),fun w=>⟨q1.mpr fun e=>hn (.inl (.inr ⟨by omega, .inl e⟩)),q2.mpr fun e=>hn (.inl (.inr ⟨by omega, .inr e⟩))⟩,fun w=>⟨q4.mpr fun e=>hn (.inr ⟨w, .inl e⟩),fun e=>hn (.inr ⟨w, .inr e⟩)⟩⟩
 ·rintro⟨f1,f2,f3⟩ ((e | ⟨w,e | e⟩) | ⟨w,e | e⟩)
  ·exact hin.mp f1 e
  ·exact q1.mp (f2 (by omega)).1 e
  ·exact q2.mp (f2 (by omega)).2 e
  ·exact q4.mp (f3 w).1 e
  ·exact(f3 w).2 e
section
variable{P:Program}{w:World}{K:yc3}{mg:Str→Option Value}{base:Heap}{T fUpto fAt fLanesBy fSame fRef fLaw:Addr}{gUpto gAt gLanesBy gSame gRef gLaw:FuncData}
set_option maxHeartbeats 0 in
theorem ybt(d:DefAt K mg "law" Mf PLaw fLaw gLaw)(z:Zs mg)(VC:DefAt K mg "_law_upto" VZ Mr fUpto gUpto)(y33:FnOk P w K mg base CX0 1 fUpto gUpto Mr (y3j K))(JT:DefAt K mg "_law_at" ZB qv fAt gAt)(qz:FnOk P w K mg base CX0 1 fAt gAt qv (spAt K))
  (Va:DefAt K mg "_law_lanes_by" j8 Vm fLanesBy gLanesBy) (y34:FnOk P w K mg base CX0 1 fLanesBy gLanesBy Vm (xK K)) (jp:DefAt K mg "_law_same_lanes" Jl jo fSame gSame) (y0f:FnOk P w K mg base CX0 2 fSame gSame jo y3a)
  (Vg:DefAt K mg "_law_refuses" j7 Vh fRef gRef) (y4n:FnOk P w K mg base CX0 10 fRef gRef Vh (y8e T)) :
  FnOk P w K mg base CX0 11 fLaw gLaw PLaw (zw T K):=by
 refine(d.F.ok JA (k:=10) (fun vs H Q E h=> ?_) (fun cdv A outer s H vs Q E hr h=> ?_))
 ·obtain⟨a,ns,rfl,_⟩:=h
  rfl
 obtain⟨a,ns,rfl,hS,hl,hT,q⟩:=h
 refine⟨_,(y7 (yB (i:=0) JA.nd rfl (Or.inl rfl) (LO Mo (pv 0) ZJ (LD ye)))
   (y7 (yB (i:=1) JA.nd rfl (Or.inl rfl) (yN LR ye (yN Ys (yd qz (hr.mono (by decide)) rfl JT.m JT.F.kp JT.b .nil yr (y0 (pv 0) (y0 ye y3))) (yd y33 (hr.mono (by decide)) rfl VC.m VC.F.kp VC.b .nil yr (y0 (pv 0) (y0 ye (y0 ye y3)))))))
   (y7 (yB (i:=2) JA.nd rfl (Or.inl rfl) (LO Mo (pv 0) (LD ye) (LD (yd y33 (hr.mono (by decide)) rfl VC.m VC.F.kp VC.b .nil yr (y0 (pv 0) (y0 ye (y0 ye y3)))))))
   (y7 (yB (i:=3) JA.nd rfl (Or.inl rfl) (yd y34 (hr.mono (by decide)) rfl Va.m Va.F.kp Va.b .nil yr (y0 (pv 2) (y0 (pv 1) (y0 (yN Vr (yd qz (hr.mono (by decide)) rfl JT.m JT.F.kp JT.b .nil yr (y0 (pv 0) (y0 ye y3))) ye) y3)))))
   (y7 (yB (i:=4) JA.nd rfl (Or.inl rfl) (yd qz (hr.mono (by decide)) rfl JT.m JT.F.kp JT.b .nil yr (y0 (pv 0) (y0 ye y3))))
   (y7 (yB (i:=5) JA.nd rfl (Or.inl rfl) (yq yS (yZ (y0 (M8 L6 ye) (y0 (pv 1) (y0 (yN y5i ye ye) (y0 (M8 L6 ye) (y0 (yN WQ ye (pv 1)) (y0 (M8 L6 (yN y5i ye ye)) y3))))))) (yN Ys (yN Vr (pv 4) ye) ye) (fun _ _=>rfl)))
   (y7 (yB (i:=6) JA.nd rfl (Or.inl rfl) (yN Ys (yN Vr (pv 4) ye) (pv 1)))
   (y7 (yB (i:=7) JA.nd rfl (Or.inl rfl) (yN Ys (yd qz (hr.mono (by decide)) rfl JT.m JT.F.kp JT.b .nil yr (y0 (pv 0) (y0 ye y3))) (pv 1)))
   (y7 (yP (yt Y1 (yN Ys (pv 4) ye) ye (yx _)) (y7 (yB (i:=11) JA.nd rfl (Or.inl rfl) (yq yS (yZ (y0 (J4 (y0 (pv 5) (y0 (pv 6) y3))) (y0 (J4 (y0 (pv 6) (y0 (pv 5) y3))) y3))) (yN Ys (yN Vr (pv 4) ye) ye) (fun _ _=>rfl)))
   (yc (yl (Ll ydy PySem.F.slot_list_insert PySem.F.type_list_insert y5p (pv 3) (y0 (yN Ys (yd qz (hr.mono (by decide)) rfl JT.m JT.F.kp JT.b .nil yr (y0 (pv 0) (y0 ye y3))) (yN LR (yC yO rfl z.len Yn (y0 (pv 3) y3)) ye)) (y0 (pv 11) y3)))))) yQ)
   (y7 (yP (yt Y1 (yN Ys (pv 4) ye) ye (yx _)) (yc (yB (i:=6) JA.nd rfl (Or.inl rfl) (pv 5))) yQ)
   (y7 (yP (yt Y1 (yN Ys (pv 4) ye) ye (yx _)) (yc (yB (i:=7) JA.nd rfl (Or.inl rfl) (pv 5))) yQ)
   (y7 (yB (i:=8) JA.nd rfl (Or.inl rfl) (yq yS (yZ (y0 (yN Ys (yd qz (hr.mono (by decide)) rfl JT.m JT.F.kp JT.b .nil yr (y0 (pv 0) (y0 ye y3))) (pv 1)) (y0 (pv 5) y3))) (Jj xm rfl z.int Wj (y0 (jv Y1 (yN Ys (pv 4) ye) ye (yx _)) y3)) (fun _ _=>rfl)))
   (y7 (yB (i:=9) JA.nd rfl (Or.inl rfl) (Jj Wr rfl z.list y1e (y0 (pv 3) y3)))
   (y7 (JW PassesOwn.never rfl (Jk rfl z.range (y0 ye y3)) (YR (i:=10) JA.nd rfl (Or.inl rfl)) (y7 (yB (i:=12) JA.nd rfl (Or.inl rfl) (jv Y1 (yN Ys (pv 4) ye) ye (yx _)))
   (y7 (yP (yt y8b (pv 10) ye (yx _)) (yc (yB (i:=12) JA.nd rfl (Or.inl rfl) (QF (pv 12) (QF (jv Y1 (yN Ys (pv 4) ye) ye (yx _)) (zZ (jv Y1 (yN Ys (pv 4) ye) ye (yx _))))))) yQ)
   (y7 (yP (yt Y1 (pv 10) ye (yx _)) (yc (yB (i:=12) JA.nd rfl (Or.inl rfl) (QF (pv 12) (QF (jv Y1 (yN Ys (pv 4) ye) ye (yx _)) (QF (jv Y1 (pv 8) (pv 6) (yx _)) (zZ (jv Y1 (pv 8) (pv 7) (yx _)))))))) yQ)
   (yc (yP (yt M0 (yd y4n (hr.mono (by decide)) rfl Vg.m Vg.F.kp Vg.b .nil yr (y0 (pv 10) (y0 (pv 1) (y0 (pv 9) (y0 (pv 6) (y0 (pv 7) (y0 (pv 8) y3))))))) (pv 12) (yx _)) (yc (yy jy)) yQ))))))
   (yc (yy (yd y0f (hr.mono (by decide)) rfl jp.m jp.F.kp jp.b .nil yr (y0 (pv 9) (y0 (pv 3) y3))))))))))))))))))), ?_⟩
 refine yba ?_
 intro R14 R13 R12 R11 R10 R9 R8 R7 R6 R5 R4 R3 R2 R1
 refine⟨_,rfl,_,rfl,a,_,rfl,hS,fun b hb=> ?_⟩
 rw [y2t hl]
 have hB:(upd H b (.lst (ns.map V.int))) b=some (.lst (ns.map V.int)):=y6
 have hT0:=hT.same (yb hb (.lst (ns.map V.int)))
 generalize upd H b (.lst (ns.map V.int))=H0 at hB hT0 ⊢
 refine⟨_,rfl,b,ns,0,rfl,SqL.of hB,_,rfl,b,ns,_,_,rfl,SqL.of hB,hl,_,_,rfl,rfl,(by show(0:Int) < 6; decide),_,_,rfl,rfl, ?_⟩
 have c1:0≤ns.getD 0 0 % 6:=yeg _ (by decide)
 have c2:ns.getD 0 0 % 6 < 6:=ye8 _ (by decide)
 obtain⟨n,hn,n1,n6⟩:∃n:Nat,(1 + ns.getD 0 0 % 6)=(n:Int)∧1≤n∧n≤6:=⟨(1 + ns.getD 0 0 % 6).toNat,by omega,by omega,by omega⟩
 show yI _ _ _ (List.set _ 1 (some (V.int (1 + ns.getD 0 0 % 6)))) H0
 rw [hn]
 obtain⟨ms,hms,hml⟩:=yar ns
 refine⟨_,rfl,_,rfl,_,rfl,b,ns,_,_,rfl,SqL.of hB,hl,_,rfl,b,_,rfl,SqL.of hB,fun c hc=> ?_⟩
 rw [hms]
 have sC:=yb hc (.lst (ms.map V.int))
 have hC:(upd H0 c (.lst (ms.map V.int))) c=some (.lst (ms.map V.int)):=y6
 have hB1:=sC _ _ hB
 have hT1:=hT0.same sC
 generalize upd H0 c (.lst (ms.map V.int))=H1 at hC hB1 hT1 ⊢
 refine⟨_,rfl,_,rfl,_,rfl,b,ns,0,rfl,SqL.of hB1,_,_,rfl,rfl,⟨by decide,by decide⟩,c,ms,n,_,rfl,SqL.of hC,by omega,by omega,by omega,fun l ps H2 s2 hL hin hpl=> ?_⟩
 have hB2:=s2 _ _ hB1
 have hT2:=hT1.same s2
 refine⟨_,rfl,b,ns,1,rfl,SqL.of hB2, ?_⟩
 generalize hsd:ns.getD 1 0=seed
 obtain⟨sv,hat,hsv⟩:∃sv:Int,atI [V.int (-1),V.int (n:Int),V.int ((10:Int) ^ (20:Int).toNat),V.int (-2),V.int (0 - (n:Int)),V.int (-((10:Int) ^ (20:Int).toNat))] (seed / 5 % 6)=some (.int sv)∧¬Pl n sv:=by
  obtain⟨x,hx,e⟩:=yb9 (a:=V.int (-1)) (b:=V.int (n:Int)) (c:=V.int ((10:Int) ^ (20:Int).toNat)) (d:=V.int (-2)) (e:=V.int (0 - (n:Int))) (f:=V.int (-((10:Int) ^ (20:Int).toNat))) (i:=seed / 5 % 6) ⟨yeg _ (by decide),ye8 _ (by decide)⟩
  have big:(10:Int) ^ (20:Int).toNat=100000000000000000000:=by decide +kernel
  rw [big] at hx e ⊢
  rcases hx with rfl | rfl | rfl | rfl | rfl | rfl
  ·exact⟨_,e,fun z=>absurd z.1 (by omega)⟩
  ·exact⟨_,e,fun z=>absurd z.2 (by omega)⟩
  ·exact⟨_,e,fun z=>absurd z.2 (by omega)⟩
  ·exact⟨_,e,fun z=>absurd z.1 (by omega)⟩
  ·exact⟨_,e,fun z=>absurd z.1 (by omega)⟩
  ·exact⟨_,e,fun z=>absurd z.1 (by omega)⟩
 have pw:CPow 10 20:=⟨by decide,by decide,by decide⟩
 refine⟨_,rfl,_,rfl,_,_,rfl,rfl,pw,_,rfl,_,rfl,_,_,rfl,rfl,_,_,rfl,rfl,pw,_,rfl,(by show 6≤sizeLine; decide),fun p hp=> ?_⟩
 refine⟨_,rfl,_,_,rfl,rfl,⟨by decide,by decide⟩,_,_,rfl,rfl,(by show(0:Int) < 6; decide),p,_,_,_,rfl,rfl,SqL.of y6,hat, ?_⟩
 have sP:=yb hp (.lst [V.int (-1),V.int (n:Int),V.int ((10:Int) ^ (20:Int).toNat),V.int (-2),V.int (0 - (n:Int)),V.int (-((10:Int) ^ (20:Int).toNat))])
 have hB3:=sP _ _ hB2
 have hT3:=hT2.same sP
 have hL3:=hL.mono sP
 generalize (upd H2 p (.lst [V.int (-1),V.int (n:Int),V.int ((10:Int) ^ (20:Int).toNat),V.int (-2),V.int (0 - (n:Int)),V.int (-((10:Int) ^ (20:Int).toNat))]))=H3 at hB3 hT3 hL3 ⊢
 have n0:(0:Int) < (n:Int):=by omega
 refine⟨_,rfl,_,_,rfl,rfl,⟨by decide,by decide⟩,_,rfl,_,_,rfl,rfl,n0, ?_⟩
 refine⟨_,rfl,b,ns,6,rfl,SqL.of hB3,_,rfl,_,_,rfl,rfl,n0, ?_⟩
 have r1:Pl n (seed / 15 % (n:Int)):=⟨yeg _ (by omega),ye8 _ n0⟩
 have r2:Pl n (ns.getD 6 0 % (n:Int)):=⟨yeg _ (by omega),ye8 _ n0⟩
 refine⟨_,rfl,_,_,rfl,rfl,(by show(0:Int) < 5; decide),rfl,_,rfl,ybs (fun σ' H'=>∃(v11:Option V) (ps':y8) (one other:Int),σ'= [some (.ref b),some (.int (n:Int)),some (.ref c),some (.ref l),some (.int seed),some (.int sv),some (.int one),some (.int other),none,none,none,v11,none]∧
   yo H' l ps'∧ps'.length≤31∧H' b=some (.lst (ns.map V.int))∧Y7 H' T Jy Jg∧(InR n ps'↔seed % 5 ≠ 1)∧Pl n one∧Pl n other) (fun key c=> ?_) (fun c=> ?_) ?_⟩
 ·have c':seed % 5=1:=V.int.inj (of_decide_eq_true c)
  refine⟨_,rfl,_,rfl,(by show 2≤sizeLine; decide),fun t1 ht1=> ?_⟩
  refine⟨_,rfl,_,rfl,(by show 2≤sizeLine; decide),fun t2 ht2=>⟨(by show 2≤sizeLine; decide),fun p2 hp2=> ?_⟩⟩
  have u1:=yb ht1 (.tup [.int sv, .int (seed / 15 % (n:Int))])
  have u2:=yb ht2 (.tup [.int (seed / 15 % (n:Int)), .int sv])
  have u3:=yb hp2 (.lst [.ref t1, .ref t2])
  refine⟨_,rfl,_,_,rfl,rfl,⟨by decide,by decide⟩,_,_,rfl,rfl,(by show(0:Int) < 2; decide),p2,_,_,_,rfl,rfl,SqL.of y6,Wm (by omega), ?_⟩
  have h1:=u3 _ _ (u2 _ _ (y6 (H:=H3) (a:=t1) (o:= .tup [.int sv, .int (seed / 15 % (n:Int))])))
  have h2:=u3 _ _ (y6 (H:=upd H3 t1 (.tup [.int sv, .int (seed / 15 % (n:Int))])) (a:=t2) (o:= .tup [.int (seed / 15 % (n:Int)), .int sv]))
  have u:=u1.trans (u2.trans u3)
  generalize (upd (upd (upd H3 t1 (.tup [.int sv, .int (seed / 15 % (n:Int))])) t2 (.tup [.int (seed / 15 % (n:Int)), .int sv])) p2 (.lst [.ref t1, .ref t2]))=H4 at h1 h2 u ⊢
  obtain⟨t,pp,et,hpp,ht⟩:∃(t:Addr) (pp:Int × Int),(if seed / 7 % 2=0 then V.ref t1 else V.ref t2)=V.ref t∧¬((0≤pp.1∧pp.1 < (n:Int))∧0≤pp.2∧pp.2 < (n:Int))∧H4 t=some (.tup (pr pp)):=by
   by_cases cc:seed / 7 % 2=0
   ·rw [if_pos cc]; exact⟨t1,(sv,_),rfl,fun z=>hsv z.1,h1⟩
   ·rw [if_neg cc]; exact⟨t2,(_,sv),rfl,fun z=>hsv z.2,h2⟩
  rw [et]
  have hB4:=u _ _ hB3
  have hT4:=hT3.same u
  obtain⟨as,hl4,hp4⟩:=hL3.mono u
  have hal:=Paired.len hp4
  have hlm:(as.map V.ref).length=ps.length:=by rw [yc2]; exact hal
  have L0:(0:Int) < ((((as.map V.ref).length:Nat):Int) + 1):=by omega
  have m0:=yeg (ns.getD 7 0) (b:=((((as.map V.ref).length:Nat):Int) + 1)) (by omega)
  have m1:=ye8 (ns.getD 7 0) L0
  have hbl:b ≠ l:=fun e=>by
   rw [e,hl4] at hB4
   have e2:as.map V.ref=ns.map V.int:=HO.lst.inj (Option.some.inj hB4)
   cases ns with
   | nil=>rw [←hsd] at c'; exact absurd c' (by decide)
   | cons x xs=>
    cases as with
    | nil=>exact absurd e2 (by simp)
    | cons y ys=>exact absurd e2 (by simp)
  refine⟨_,rfl, .inl ⟨rfl,_,SqL.of hl4⟩,_,rfl,b,ns,7,rfl,SqL.of hB4,_,rfl,l,_,rfl, .inl (SqL.of hl4),_,_,rfl,rfl,_,_,rfl,rfl,L0,_,rfl,l,_,_,_,rfl,rfl,hl4,m0,by omega,by omega, ?_⟩
  refine key _ _ ⟨_,ps.take (ns.getD 7 0 % ((((as.map V.ref).length:Nat):Int) + 1)).toNat ++ pp :: ps.drop (ns.getD 7 0 % ((((as.map V.ref).length:Nat):Int) + 1)).toNat,_,_,rfl,Ww hl4 hp4 ht _, ?_,by rw [yi hbl]; exact hB4,y9r hT4 hl4,⟨fun hi=>absurd (hi pp (by simp)) hpp,fun hi=>absurd c' hi⟩,r1,r2⟩
  rw [ycr,yct,yd4,ydt]
  omega
 ·have c':seed % 5 ≠ 1:=fun e=>c (decide_eq_true (congrArg V.int e))
  exact⟨_,ps,_,_,rfl,hL3,by omega,hB3,hT3,⟨fun _=>c',fun _=>hin⟩,r1,r2⟩
 clear hL hB2 hT2 hB3 hT3 hL3 sP s2 r1 r2
 rintro σ H4 ⟨v11,ps',one,other,rfl,⟨as,hl4,hp4⟩,hpl4,hB4,hT4,hin4,r1,r2⟩
 refine⟨_,rfl,_,_,rfl,rfl,(by show(0:Int) < 5; decide),rfl,_,rfl,Mm (fun v H'=>∃o:Int,v= .int o∧H'=H4∧(Pl n o↔seed % 5 ≠ 2)) (fun key c=> ?_) (fun c=> ?_) ?_⟩
 ·exact⟨_,rfl,key _ _ ⟨sv,rfl,rfl,fun z=>absurd z hsv,fun z=>absurd (dvi.mp c) z⟩⟩
 ·exact⟨_,rfl,one,rfl,rfl,fun _ e=>c (dvi.mpr e),fun _=>r1⟩
 rintro v H' ⟨one,rfl,eH,q1⟩
 rw [eH]
 clear eH H'
 refine⟨_,rfl,_,_,rfl,rfl,(by show(0:Int) < 5; decide),rfl,_,rfl,Mm (fun v H''=>∃o:Int,v= .int o∧H''=H4∧(Pl n o↔seed % 5 ≠ 3)) (fun key c=> ?_) (fun c=> ?_) ?_⟩
 ·exact⟨_,rfl,key _ _ ⟨sv,rfl,rfl,fun z=>absurd z hsv,fun z=>absurd (dvi.mp c) z⟩⟩
 ·exact⟨_,rfl,other,rfl,rfl,fun _ e=>c (dvi.mpr e),fun _=>r2⟩
 rintro v H'' ⟨other,rfl,eH,q2⟩
 rw [eH]
 clear eH H''
 refine⟨_,rfl,b,ns,8,rfl,SqL.of hB4,_,rfl,_,_,rfl,rfl,n0,_,rfl,(by show 2≤sizeLine; decide),fun g hg=> ?_⟩
 refine⟨_,rfl,_,_,rfl,rfl,(by show(0:Int) < 5; decide),rfl, .inr ⟨_,rfl,g,_,_,_,rfl,rfl,SqL.of y6,Wm (by split <;> omega), ?_⟩⟩
 have r4:Pl n (ns.getD 8 0 % (n:Int)):=⟨yeg _ (by omega),ye8 _ n0⟩
 obtain⟨gone,eg,q4⟩:∃gone:Int,(if (if decide (V.int (seed % 5)=V.int 4)=true then(1:Int) else 0)=0 then V.int (ns.getD 8 0 % (n:Int)) else V.int sv)=V.int gone∧(Pl n gone↔seed % 5 ≠ 4):=by
  by_cases c4:seed % 5=4
  ·rw [if_pos (dvi.mpr c4),if_neg (by decide)]
   exact⟨sv,rfl,fun z=>absurd z hsv,fun z=>absurd c4 z⟩
  ·rw [if_neg (fun z=>c4 (dvi.mp z)),if_pos rfl]
   exact⟨_,rfl,fun _=>c4,fun _=>r4⟩
 rw [eg]
 have sg:=yb hg (.lst [V.int (ns.getD 8 0 % (n:Int)),V.int sv])
 have hl5:=sg _ _ hl4
 have hp5:=Paired.mapP hp4 fun _ _ e=>sg _ _ e
 have hT5:=hT4.same sg
 generalize (upd H4 g (.lst [V.int (ns.getD 8 0 % (n:Int)),V.int sv]))=H5 at hl5 hp5 hT5 ⊢
 refine⟨_,rfl,l,_,rfl, .inl (SqL.of hl5),fun h hh=> ?_⟩
 have sh:=yb hh (.lst (as.map V.ref))
 have hH:=y3k hl5 hp5 hh
 have hL6:yo (upd H5 h (.lst (as.map V.ref))) l ps':=yo.mono sh ⟨as,hl5,hp5⟩
 have hT6:=hT5.same sh
 generalize (upd H5 h (.lst (as.map V.ref)))=H6 at hH hL6 hT6 ⊢
 refine⟨_,rfl,(by decide),(by decide),Zm (n:=(16:Int).toNat) (fun i σ H7=>∃(v10 v12:Option V),σ= [some (.ref b),some (.int (n:Int)),some (.ref c),some (.ref l),some (.int seed),some (.int sv),some (.int one),some (.int other),some (.int gone),some (.ref h),v10,v11,v12]∧
   yo H7 h ps'∧yo H7 l ps'∧Y7 H7 T Jy Jg) ⟨none,none,rfl,hH,hL6,hT6⟩ ?_ ?_⟩
 ·rintro i σ H7 hi ⟨v10,v12,rfl,hh7,hl7,hT7⟩
  have hi':i < 16:=hi
  obtain⟨way,ew,hw⟩:∃way:Int,(0:Int) + (i:Int)=way∧0≤way∧way < 16:=⟨_,rfl,by omega,by omega⟩
  rw [ew]
  refine⟨_,rfl,_,_,rfl,rfl,(by show(0:Int) < 5; decide),rfl, ?_⟩
  refine⟨_,rfl,_,_,rfl,rfl,_,rfl,Mm (fun v H'=>∃dd:Bool,v= .bl dd∧H'=H7∧(dd=true↔(seed % 5=1∨(9 < way∧(seed % 5=2∨seed % 5=3))))) (fun key c=> ?_) (fun c=> ?_) ?_⟩
  ·have c9:9 < way:=of_decide_eq_true c
   refine⟨_,rfl,_,rfl,Lj (fun k1=> ?_) (fun k1=> ?_)⟩
   ·exact key _ _ ⟨true,rfl,rfl,fun _=> .inl (dvi.mp k1),fun _=>rfl⟩
   refine⟨_,rfl,_,_,rfl,rfl,(by show(0:Int) < 5; decide),rfl,_,rfl,Lj (fun k2=> ?_) (fun k2=> ?_)⟩
   ·exact key _ _ ⟨true,rfl,rfl,fun _=> .inr ⟨c9, .inl (dvi.mp k2)⟩,fun _=>rfl⟩
   refine⟨_,rfl,_,_,rfl,rfl,(by show(0:Int) < 5; decide),rfl,key _ _ ⟨_,rfl,rfl,fun k3=> .inr ⟨c9, .inr (dvi.mp k3)⟩, ?_⟩⟩
   rintro(e | ⟨_,e | e⟩)
   ·exact absurd (dvi.mpr e) k1
   ·exact absurd (dvi.mpr e) k2
   ·exact dvi.mpr e
  ·have c9:¬9 < way:=of_decide_eq_false (ydh.mpr c)
   refine⟨_,rfl,_,rfl,rfl,fun k1=> .inl (dvi.mp k1), ?_⟩
   rintro(e | ⟨e,_⟩)
   ·exact dvi.mpr e
   ·exact absurd e c9
  rintro v H8 ⟨dd,rfl,eH,hd1⟩
  rw [eH]
  clear eH H8
  refine⟨_,rfl,rfl,_,rfl,Mm (fun v H'=>∃dd:Bool,v= .bl dd∧H'=H7∧(dd=true↔((seed % 5=1∨(9 < way∧(seed % 5=2∨seed % 5=3)))∨(way=15∧(seed % 5=4∨gone=one∨gone=other))))) (fun key c=> ?_) (fun c=> ?_) ?_⟩
  ·have c15:way=15:=dvi.mp c
   refine⟨_,rfl,_,rfl,Lj (fun k1=> ?_) (fun k1=> ?_)⟩
   ·exact key _ _ ⟨true,rfl,rfl,fun _=> .inl (hd1.mp k1),fun _=>rfl⟩
   refine⟨_,rfl,_,_,rfl,rfl,(by show(0:Int) < 5; decide),rfl,_,rfl,Lj (fun k2=> ?_) (fun k2=> ?_)⟩
   ·exact key _ _ ⟨true,rfl,rfl,fun _=> .inr ⟨c15, .inl (dvi.mp k2)⟩,fun _=>rfl⟩
   refine⟨_,rfl,_,rfl,rfl,_,rfl,Lj (fun k3=> ?_) (fun k3=> ?_)⟩
   ·exact key _ _ ⟨true,rfl,rfl,fun _=> .inr ⟨c15, .inr (.inl (dvi.mp k3))⟩,fun _=>rfl⟩
   refine⟨_,rfl,_,rfl,rfl,key _ _ ⟨_,rfl,rfl,fun k4=> .inr ⟨c15, .inr (.inr (dvi.mp k4))⟩, ?_⟩⟩
   rintro(e | ⟨_,e | e | e⟩)
   ·exact absurd (hd1.mpr e) k1
   ·exact absurd (dvi.mpr e) k2
   ·exact absurd (dvi.mpr e) k3
   ·exact dvi.mpr e
  ·refine⟨_,rfl,_,rfl,rfl,fun k1=> .inl (hd1.mp k1), ?_⟩
   rintro(e | ⟨e,_⟩)
   ·exact hd1.mpr e
   ·exact absurd (dvi.mpr e) c
  rintro v H9 ⟨dd2,rfl,eH,hd2⟩
  rw [eH]
  clear eH H9
  refine⟨_,rfl,_,rfl,_,rfl,_,rfl,_,rfl,_,rfl,way,n,h,ps',one,other,gone,dd2,rfl,hw,hh7,hpl4,by omega,hT7,y5w hd2 hin4 q1 q2 q4,fun H10 k10 hT10=> ?_⟩
  exact⟨_,rfl,rfl,_,rfl,zx rfl ⟨_,_,rfl,k10.lanes hh7,k10.lanes hl7,hT10⟩⟩
 ·rintro σ H7 ⟨v10,v12,rfl,hh7,hl7,hT7⟩
  exact⟨_,rfl,_,rfl,h,l,ps',rfl,hh7,hl7,by omega,q _⟩
end
theorem us1{C:List Value→Prop}(h:∀a0,C [a0]):∀{us:List Value},us.length=1→C us
 | [a0],_=>h a0
theorem us2{C:List Value→Prop}(h:∀a0 a1,C [a0,a1]):∀{us:List Value},us.length=2→C us
 | [a0,a1],_=>h a0 a1
theorem us3{C:List Value→Prop}(h:∀a0 a1 a2,C [a0,a1,a2]):∀{us:List Value},us.length=3→C us
 | [a0,a1,a2],_=>h a0 a1 a2
theorem us4{C:List Value→Prop}(h:∀a0 a1 a2 a3,C [a0,a1,a2,a3]):∀{us:List Value},us.length=4→C us
 | [a0,a1,a2,a3],_=>h a0 a1 a2 a3
theorem us5{C:List Value→Prop}(h:∀a0 a1 a2 a3 a4,C [a0,a1,a2,a3,a4]):∀{us:List Value},us.length=5→C us
 | [a0,a1,a2,a3,a4],_=>h a0 a1 a2 a3 a4
theorem us6{C:List Value→Prop}(h:∀a0 a1 a2 a3 a4 a5,C [a0,a1,a2,a3,a4,a5]):∀{us:List Value},us.length=6→C us
 | [a0,a1,a2,a3,a4,a5],_=>h a0 a1 a2 a3 a4 a5
set_option maxHeartbeats 0 in
theorem all_mk{l:yi5}{w:World}{K:yc3}{h:Heap}{mg:Str→Option Value}{fa:Addr}(X:K.In h)(G:h.Ns mainGlobals mg)(hfa:mg "law" =some (.ref fa))
  {f0:Addr} {od0 an0:Option Addr} {sl0:Array (Option Value)} {oc0 kV0 dc0 pm0 cd0 ct0:Value}
  (a0:ych K mainGlobals "are_places" =some (some (.ref f0))) (l0:K.lookup f0=some ⟨oc0,od0, .func (ycq "are_places" "are_places" (yA YD) (yu YD) (ya YD) .none kV0 dc0 pm0 an0 cd0 ct0),sl0⟩) (c0:ycl K cd0 "are_places" =true) (k0:yck K (.ref f0)=true)
  {f1:Addr} {od1 an1:Option Addr} {sl1:Array (Option Value)} {oc1 kV1 dc1 pm1 cd1 ct1:Value}
  (a1:ych K mainGlobals "check_places" =some (some (.ref f1))) (l1:K.lookup f1=some ⟨oc1,od1, .func (ycq "check_places" "check_places" (yA yG) (yu yG) (ya yG) .none kV1 dc1 pm1 an1 cd1 ct1),sl1⟩) (c1:ycl K cd1 "check_places" =true) (k1:yck K (.ref f1)=true)
  {f2:Addr} {od2 an2:Option Addr} {sl2:Array (Option Value)} {oc2 kV2 dc2 pm2 cd2 ct2:Value}
  (a2:ych K mainGlobals "check_lanes" =some (some (.ref f2))) (l2:K.lookup f2=some ⟨oc2,od2, .func (ycq "check_lanes" "check_lanes" (yA yw) (yu yw) (ya yw) .none kV2 dc2 pm2 an2 cd2 ct2),sl2⟩) (c2:ycl K cd2 "check_lanes" =true) (k2:yck K (.ref f2)=true)
  {f3:Addr} {od3 an3:Option Addr} {sl3:Array (Option Value)} {oc3 kV3 dc3 pm3 cd3 ct3:Value}
  (a3:ych K mainGlobals "both_ways" =some (some (.ref f3))) (l3:K.lookup f3=some ⟨oc3,od3, .func (ycq "both_ways" "both_ways" (yA YT) (yu YT) (ya YT) .none kV3 dc3 pm3 an3 cd3 ct3),sl3⟩) (c3:ycl K cd3 "both_ways" =true) (k3:yck K (.ref f3)=true)
  {f4:Addr} {od4 an4:Option Addr} {sl4:Array (Option Value)} {oc4 kV4 dc4 pm4 cd4 ct4:Value}
  (a4:ych K mainGlobals "lanes_without" =some (some (.ref f4))) (l4:K.lookup f4=some ⟨oc4,od4, .func (ycq "lanes_without" "lanes_without" (yA Yj) (yu Yj) (ya Yj) .none kV4 dc4 pm4 an4 cd4 ct4),sl4⟩) (c4:ycl K cd4 "lanes_without" =true) (k4:yck K (.ref f4)=true)
  {f5:Addr} {od5 an5:Option Addr} {sl5:Array (Option Value)} {oc5 kV5 dc5 pm5 cd5 ct5:Value}
  (a5:ych K mainGlobals "ends_by_place" =some (some (.ref f5))) (l5:K.lookup f5=some ⟨oc5,od5, .func (ycq "ends_by_place" "ends_by_place" (yA J5) (yu J5) (ya J5) .none kV5 dc5 pm5 an5 cd5 ct5),sl5⟩) (c5:ycl K cd5 "ends_by_place" =true) (k5:yck K (.ref f5)=true)
  {f6:Addr} {od6 an6:Option Addr} {sl6:Array (Option Value)} {oc6 kV6 dc6 pm6 cd6 ct6:Value}
  (a6:ych K mainGlobals "reach" =some (some (.ref f6))) (l6:K.lookup f6=some ⟨oc6,od6, .func (ycq "reach" "reach" (yA jI) (yu jI) (ya jI) .none kV6 dc6 pm6 an6 cd6 ct6),sl6⟩) (c6:ycl K cd6 "reach" =true) (k6:yck K (.ref f6)=true)
  {f7:Addr} {od7 an7:Option Addr} {sl7:Array (Option Value)} {oc7 kV7 dc7 pm7 cd7 ct7:Value}
  (a7:ych K mainGlobals "row_to" =some (some (.ref f7))) (l7:K.lookup f7=some ⟨oc7,od7, .func (ycq "row_to" "row_to" (yA jM) (yu jM) (ya jM) .none kV7 dc7 pm7 an7 cd7 ct7),sl7⟩) (c7:ycl K cd7 "row_to" =true) (k7:yck K (.ref f7)=true)
  {f8:Addr} {od8 an8:Option Addr} {sl8:Array (Option Value)} {oc8 kV8 dc8 pm8 cd8 ct8:Value}
  (a8:ych K mainGlobals "walk_or_wall" =some (some (.ref f8))) (l8:K.lookup f8=some ⟨oc8,od8, .func (ycq "walk_or_wall" "walk_or_wall" (yA Yv) (yu Yv) (ya Yv) .none kV8 dc8 pm8 an8 cd8 ct8),sl8⟩) (c8:ycl K cd8 "walk_or_wall" =true) (k8:yck K (.ref f8)=true)
  {f9:Addr} {od9 an9:Option Addr} {sl9:Array (Option Value)} {oc9 kV9 dc9 pm9 cd9 ct9:Value}
  (a9:ych K mainGlobals "part_with" =some (some (.ref f9))) (l9:K.lookup f9=some ⟨oc9,od9, .func (ycq "part_with" "part_with" (yA JI) (yu JI) (ya JI) .none kV9 dc9 pm9 an9 cd9 ct9),sl9⟩) (c9:ycl K cd9 "part_with" =true) (k9:yck K (.ref f9)=true)
  {f10:Addr} {od10 an10:Option Addr} {sl10:Array (Option Value)} {oc10 kV10 dc10 pm10 cd10 ct10:Value}
  (a10:ych K mainGlobals "parts" =some (some (.ref f10))) (l10:K.lookup f10=some ⟨oc10,od10, .func (ycq "parts" "parts" (yA J3) (yu J3) (ya J3) .none kV10 dc10 pm10 an10 cd10 ct10),sl10⟩) (c10:ycl K cd10 "parts" =true) (k10:yck K (.ref f10)=true)
  {f11:Addr} {od11 an11:Option Addr} {sl11:Array (Option Value)} {oc11 kV11 dc11 pm11 cd11 ct11:Value}
  (a11:ych K mainGlobals "part_numbers" =some (some (.ref f11))) (l11:K.lookup f11=some ⟨oc11,od11, .func (ycq "part_numbers" "part_numbers" (yA Yr) (yu Yr) (ya Yr) .none kV11 dc11 pm11 an11 cd11 ct11),sl11⟩) (c11:ycl K cd11 "part_numbers" =true) (k11:yck K (.ref f11)=true)
  {f12:Addr} {od12 an12:Option Addr} {sl12:Array (Option Value)} {oc12 kV12 dc12 pm12 cd12 ct12:Value}
  (a12:ych K mainGlobals "between_parts" =some (some (.ref f12))) (l12:K.lookup f12=some ⟨oc12,od12, .func (ycq "between_parts" "between_parts" (yA Yd) (yu Yd) (ya Yd) .none kV12 dc12 pm12 an12 cd12 ct12),sl12⟩) (c12:ycl K cd12 "between_parts" =true) (k12:yck K (.ref f12)=true)
  {f13:Addr} {od13 an13:Option Addr} {sl13:Array (Option Value)} {oc13 kV13 dc13 pm13 cd13 ct13:Value}
  (a13:ych K mainGlobals "longest_rows" =some (some (.ref f13))) (l13:K.lookup f13=some ⟨oc13,od13, .func (ycq "longest_rows" "longest_rows" (yA Ye) (yu Ye) (ya Ye) .none kV13 dc13 pm13 an13 cd13 ct13),sl13⟩) (c13:ycl K cd13 "longest_rows" =true) (k13:yck K (.ref f13)=true)
  {f14:Addr} {od14 an14:Option Addr} {sl14:Array (Option Value)} {oc14 kV14 dc14 pm14 cd14 ct14:Value}
  (a14:ych K mainGlobals "depths" =some (some (.ref f14))) (l14:K.lookup f14=some ⟨oc14,od14, .func (ycq "depths" "depths" (yA jt) (yu jt) (ya jt) .none kV14 dc14 pm14 an14 cd14 ct14),sl14⟩) (c14:ycl K cd14 "depths" =true) (k14:yck K (.ref f14)=true)
  {f15:Addr} {od15 an15:Option Addr} {sl15:Array (Option Value)} {oc15 kV15 dc15 pm15 cd15 ct15:Value}
  (a15:ych K mainGlobals "deepest" =some (some (.ref f15))) (l15:K.lookup f15=some ⟨oc15,od15, .func (ycq "deepest" "deepest" (yA jc) (yu jc) (ya jc) .none kV15 dc15 pm15 an15 cd15 ct15),sl15⟩) (c15:ycl K cd15 "deepest" =true) (k15:yck K (.ref f15)=true)
  {f16:Addr} {od16 an16:Option Addr} {sl16:Array (Option Value)} {oc16 kV16 dc16 pm16 cd16 ct16:Value}
  (a16:ych K mainGlobals "round_trip" =some (some (.ref f16))) (l16:K.lookup f16=some ⟨oc16,od16, .func (ycq "round_trip" "round_trip" (yA Jh) (yu Jh) (ya Jh) .none kV16 dc16 pm16 an16 cd16 ct16),sl16⟩) (c16:ycl K cd16 "round_trip" =true) (k16:yck K (.ref f16)=true)
  {f17:Addr} {od17 an17:Option Addr} {sl17:Array (Option Value)} {oc17 kV17 dc17 pm17 cd17 ct17:Value}
  (a17:ych K mainGlobals "leaders" =some (some (.ref f17))) (l17:K.lookup f17=some ⟨oc17,od17, .func (ycq "leaders" "leaders" (yA Js) (yu Js) (ya Js) .none kV17 dc17 pm17 an17 cd17 ct17),sl17⟩) (c17:ycl K cd17 "leaders" =true) (k17:yck K (.ref f17)=true)
  {f18:Addr} {od18 an18:Option Addr} {sl18:Array (Option Value)} {oc18 kV18 dc18 pm18 cd18 ct18:Value}
  (a18:ych K mainGlobals "musts" =some (some (.ref f18))) (l18:K.lookup f18=some ⟨oc18,od18, .func (ycq "musts" "musts" (yA Vy) (yu Vy) (ya Vy) .none kV18 dc18 pm18 an18 cd18 ct18),sl18⟩) (c18:ycl K cd18 "musts" =true) (k18:yck K (.ref f18)=true)
  {f19:Addr} {od19 an19:Option Addr} {sl19:Array (Option Value)} {oc19 kV19 dc19 pm19 cd19 ct19:Value}
  (a19:ych K mainGlobals "ring_or_wall" =some (some (.ref f19))) (l19:K.lookup f19=some ⟨oc19,od19, .func (ycq "ring_or_wall" "ring_or_wall" (yA YY) (yu YY) (ya YY) .none kV19 dc19 pm19 an19 cd19 ct19),sl19⟩) (c19:ycl K cd19 "ring_or_wall" =true) (k19:yck K (.ref f19)=true)
  {f20:Addr} {od20 an20:Option Addr} {sl20:Array (Option Value)} {oc20 kV20 dc20 pm20 cd20 ct20:Value}
  (a20:ych K mainGlobals "newly_joining" =some (some (.ref f20))) (l20:K.lookup f20=some ⟨oc20,od20, .func (ycq "newly_joining" "newly_joining" (yA YE) (yu YE) (ya YE) .none kV20 dc20 pm20 an20 cd20 ct20),sl20⟩) (c20:ycl K cd20 "newly_joining" =true) (k20:yck K (.ref f20)=true)
  {f21:Addr} {od21 an21:Option Addr} {sl21:Array (Option Value)} {oc21 kV21 dc21 pm21 cd21 ct21:Value}
  (a21:ych K mainGlobals "bridges" =some (some (.ref f21))) (l21:K.lookup f21=some ⟨oc21,od21, .func (ycq "bridges" "bridges" (yA JS) (yu JS) (ya JS) .none kV21 dc21 pm21 an21 cd21 ct21),sl21⟩) (c21:ycl K cd21 "bridges" =true) (k21:yck K (.ref f21)=true)
  {f22:Addr} {od22 an22:Option Addr} {sl22:Array (Option Value)} {oc22 kV22 dc22 pm22 cd22 ct22:Value}
  (a22:ych K mainGlobals "tie_told" =some (some (.ref f22))) (l22:K.lookup f22=some ⟨oc22,od22, .func (ycq "tie_told" "tie_told" (yA j9) (yu j9) (ya j9) .none kV22 dc22 pm22 an22 cd22 ct22),sl22⟩) (c22:ycl K cd22 "tie_told" =true) (k22:yck K (.ref f22)=true)
  {f23:Addr} {od23 an23:Option Addr} {sl23:Array (Option Value)} {oc23 kV23 dc23 pm23 cd23 ct23:Value}
  (a23:ych K mainGlobals "neighbours" =some (some (.ref f23))) (l23:K.lookup f23=some ⟨oc23,od23, .func (ycq "neighbours" "neighbours" (yA YX) (yu YX) (ya YX) .none kV23 dc23 pm23 an23 cd23 ct23),sl23⟩) (c23:ycl K cd23 "neighbours" =true) (k23:yck K (.ref f23)=true)
  {f24:Addr} {od24 an24:Option Addr} {sl24:Array (Option Value)} {oc24 kV24 dc24 pm24 cd24 ct24:Value}
  (a24:ych K mainGlobals "walks_or_wall" =some (some (.ref f24))) (l24:K.lookup f24=some ⟨oc24,od24, .func (ycq "walks_or_wall" "walks_or_wall" (yA Yp) (yu Yp) (ya Yp) .none kV24 dc24 pm24 an24 cd24 ct24),sl24⟩) (c24:ycl K cd24 "walks_or_wall" =true) (k24:yck K (.ref f24)=true)
  {f25:Addr} {od25 an25:Option Addr} {sl25:Array (Option Value)} {oc25 kV25 dc25 pm25 cd25 ct25:Value}
  (a25:ych K mainGlobals "cut_places" =some (some (.ref f25))) (l25:K.lookup f25=some ⟨oc25,od25, .func (ycq "cut_places" "cut_places" (yA J1) (yu J1) (ya J1) .none kV25 dc25 pm25 an25 cd25 ct25),sl25⟩) (c25:ycl K cd25 "cut_places" =true) (k25:yck K (.ref f25)=true)
  {f26:Addr} {od26 an26:Option Addr} {sl26:Array (Option Value)} {oc26 kV26 dc26 pm26 cd26 ct26:Value}
  (a26:ych K mainGlobals "place_told" =some (some (.ref f26))) (l26:K.lookup f26=some ⟨oc26,od26, .func (ycq "place_told" "place_told" (yA Jf) (yu Jf) (ya Jf) .none kV26 dc26 pm26 an26 cd26 ct26),sl26⟩) (c26:ycl K cd26 "place_told" =true) (k26:yck K (.ref f26)=true)
  {f27:Addr} {od27 an27:Option Addr} {sl27:Array (Option Value)} {oc27 kV27 dc27 pm27 cd27 ct27:Value}
  (a27:ych K mainGlobals "is_walk" =some (some (.ref f27))) (l27:K.lookup f27=some ⟨oc27,od27, .func (ycq "is_walk" "is_walk" (yA jq) (yu jq) (ya jq) .none kV27 dc27 pm27 an27 cd27 ct27),sl27⟩) (c27:ycl K cd27 "is_walk" =true) (k27:yck K (.ref f27)=true)
  {f28:Addr} {od28 an28:Option Addr} {sl28:Array (Option Value)} {oc28 kV28 dc28 pm28 cd28 ct28:Value}
  (a28:ych K mainGlobals "is_shut" =some (some (.ref f28))) (l28:K.lookup f28=some ⟨oc28,od28, .func (ycq "is_shut" "is_shut" (yA JX) (yu JX) (ya JX) .none kV28 dc28 pm28 an28 cd28 ct28),sl28⟩) (c28:ycl K cd28 "is_shut" =true) (k28:yck K (.ref f28)=true)
  {f29:Addr} {od29 an29:Option Addr} {sl29:Array (Option Value)} {oc29 kV29 dc29 pm29 cd29 ct29:Value}
  (a29:ych K mainGlobals "walk" =some (some (.ref f29))) (l29:K.lookup f29=some ⟨oc29,od29, .func (ycq "walk" "walk" (yA Lq) (yu Lq) (ya Lq) .none kV29 dc29 pm29 an29 cd29 ct29),sl29⟩) (c29:ycl K cd29 "walk" =true) (k29:yck K (.ref f29)=true)
  {f30:Addr} {od30 an30:Option Addr} {sl30:Array (Option Value)} {oc30 kV30 dc30 pm30 cd30 ct30:Value}
  (a30:ych K mainGlobals "around" =some (some (.ref f30))) (l30:K.lookup f30=some ⟨oc30,od30, .func (ycq "around" "around" (yA jT) (yu jT) (ya jT) .none kV30 dc30 pm30 an30 cd30 ct30),sl30⟩) (c30:ycl K cd30 "around" =true) (k30:yck K (.ref f30)=true)
  {f31:Addr} {od31 an31:Option Addr} {sl31:Array (Option Value)} {oc31 kV31 dc31 pm31 cd31 ct31:Value}
  (a31:ych K mainGlobals "joined" =some (some (.ref f31))) (l31:K.lookup f31=some ⟨oc31,od31, .func (ycq "joined" "joined" (yA jP) (yu jP) (ya jP) .none kV31 dc31 pm31 an31 cd31 ct31),sl31⟩) (c31:ycl K cd31 "joined" =true) (k31:yck K (.ref f31)=true)
  {f32:Addr} {od32 an32:Option Addr} {sl32:Array (Option Value)} {oc32 kV32 dc32 pm32 cd32 ct32:Value}
  (a32:ych K mainGlobals "_law_upto" =some (some (.ref f32))) (l32:K.lookup f32=some ⟨oc32,od32, .func (ycq "_law_upto" "_law_upto" (yA VZ) (yu VZ) (ya VZ) .none kV32 dc32 pm32 an32 cd32 ct32),sl32⟩) (c32:ycl K cd32 "_law_upto" =true) (k32:yck K (.ref f32)=true)
  {f33:Addr} {od33 an33:Option Addr} {sl33:Array (Option Value)} {oc33 kV33 dc33 pm33 cd33 ct33:Value}
  (a33:ych K mainGlobals "_law_whole" =some (some (.ref f33))) (l33:K.lookup f33=some ⟨oc33,od33, .func (ycq "_law_whole" "_law_whole" (yA Vc) (yu Vc) (ya Vc) .none kV33 dc33 pm33 an33 cd33 ct33),sl33⟩) (c33:ycl K cd33 "_law_whole" =true) (k33:yck K (.ref f33)=true)
  {f34:Addr} {od34 an34:Option Addr} {sl34:Array (Option Value)} {oc34 kV34 dc34 pm34 cd34 ct34:Value}
  (a34:ych K mainGlobals "_law_at" =some (some (.ref f34))) (l34:K.lookup f34=some ⟨oc34,od34, .func (ycq "_law_at" "_law_at" (yA ZB) (yu ZB) (ya ZB) .none kV34 dc34 pm34 an34 cd34 ct34),sl34⟩) (c34:ycl K cd34 "_law_at" =true) (k34:yck K (.ref f34)=true)
  {f35:Addr} {od35 an35:Option Addr} {sl35:Array (Option Value)} {oc35 kV35 dc35 pm35 cd35 ct35:Value}
  (a35:ych K mainGlobals "_law_lanes_by" =some (some (.ref f35))) (l35:K.lookup f35=some ⟨oc35,od35, .func (ycq "_law_lanes_by" "_law_lanes_by" (yA j8) (yu j8) (ya j8) .none kV35 dc35 pm35 an35 cd35 ct35),sl35⟩) (c35:ycl K cd35 "_law_lanes_by" =true) (k35:yck K (.ref f35)=true)
  {f36:Addr} {od36 an36:Option Addr} {sl36:Array (Option Value)} {oc36 kV36 dc36 pm36 cd36 ct36:Value}
  (a36:ych K mainGlobals "_law_same_lanes" =some (some (.ref f36))) (l36:K.lookup f36=some ⟨oc36,od36, .func (ycq "_law_same_lanes" "_law_same_lanes" (yA Jl) (yu Jl) (ya Jl) .none kV36 dc36 pm36 an36 cd36 ct36),sl36⟩) (c36:ycl K cd36 "_law_same_lanes" =true) (k36:yck K (.ref f36)=true)
  {f37:Addr} {od37 an37:Option Addr} {sl37:Array (Option Value)} {oc37 kV37 dc37 pm37 cd37 ct37:Value}
  (a37:ych K mainGlobals "_law_alone" =some (some (.ref f37))) (l37:K.lookup f37=some ⟨oc37,od37, .func (ycq "_law_alone" "_law_alone" (yA Vk) (yu Vk) (ya Vk) .none kV37 dc37 pm37 an37 cd37 ct37),sl37⟩) (c37:ycl K cd37 "_law_alone" =true) (k37:yck K (.ref f37)=true)
  {f38:Addr} {od38 an38:Option Addr} {sl38:Array (Option Value)} {oc38 kV38 dc38 pm38 cd38 ct38:Value}
  (a38:ych K mainGlobals "_law_with_two" =some (some (.ref f38))) (l38:K.lookup f38=some ⟨oc38,od38, .func (ycq "_law_with_two" "_law_with_two" (yA j6) (yu j6) (ya j6) .none kV38 dc38 pm38 an38 cd38 ct38),sl38⟩) (c38:ycl K cd38 "_law_with_two" =true) (k38:yck K (.ref f38)=true)
  {f39:Addr} {od39 an39:Option Addr} {sl39:Array (Option Value)} {oc39 kV39 dc39 pm39 cd39 ct39:Value}
  (a39:ych K mainGlobals "_law_refuses" =some (some (.ref f39))) (l39:K.lookup f39=some ⟨oc39,od39, .func (ycq "_law_refuses" "_law_refuses" (yA j7) (yu j7) (ya j7) .none kV39 dc39 pm39 an39 cd39 ct39),sl39⟩) (c39:ycl K cd39 "_law_refuses" =true) (k39:yck K (.ref f39)=true)
  {f40:Addr} {od40 an40:Option Addr} {sl40:Array (Option Value)} {oc40 kV40 dc40 pm40 cd40 ct40:Value}
  (a40:ych K mainGlobals "law" =some (some (.ref f40))) (l40:K.lookup f40=some ⟨oc40,od40, .func (ycq "law" "law" (yA Mf) (yu Mf) (ya Mf) .none kV40 dc40 pm40 an40 cd40 ct40),sl40⟩) (c40:ycl K cd40 "law" =true) (k40:yck K (.ref f40)=true)
  {CLaneError:Addr} (n_LaneError:ych K mainGlobals "LaneError" =some (some (.ref CLaneError))) (x_LaneError:yf8 K CLaneError [.type "ValueError", .type "Exception", .type "BaseException", .type "object"] "ValueError.__new__" =true)
  {CNoPlace:Addr} (n_NoPlace:ych K mainGlobals "NoPlace" =some (some (.ref CNoPlace))) (x_NoPlace:yf8 K CNoPlace [.type "ValueError", .type "Exception", .type "BaseException", .type "object"] "ValueError.__new__" =true)
  {CNoWay:Addr} (n_NoWay:ych K mainGlobals "NoWay" =some (some (.ref CNoWay))) (x_NoWay:yf8 K CNoWay [.type "ValueError", .type "Exception", .type "BaseException", .type "object"] "ValueError.__new__" =true)
  {CNoTie:Addr} (n_NoTie:ych K mainGlobals "NoTie" =some (some (.ref CNoTie))) (x_NoTie:yf8 K CNoTie [.type "ValueError", .type "Exception", .type "BaseException", .type "object"] "ValueError.__new__" =true)
  (m_NoPlace:yfc K (.ref CNoPlace) (.ref CLaneError)=some true) (i_NoPlace:yd7 K (.ref CNoPlace) (.type "ValueError")=some true)
  (m_NoWay:yfc K (.ref CNoWay) (.ref CLaneError)=some true) (i_NoWay:yd7 K (.ref CNoWay) (.type "ValueError")=some true)
  (m_NoTie:yfc K (.ref CNoTie) (.ref CLaneError)=some true) (i_NoTie:yd7 K (.ref CNoTie) (.type "ValueError")=some true)
  (g_NoWay:yds K (.ref CNoWay) "__getattribute__" =some (some (.builtin "BaseException.__getattribute__")))
  (ga_NoWay:yds K (.ref CNoWay) "__getattr__" =some none)
  (cl_NoWay:yds K (.ref CNoWay) "__class__" =some (some (.builtin "object.__class__")))
  (mo_NoWay:yeb K CNoWay (.type "object")=some true)
  (mb_NoWay:yeb K CNoWay (.type "BaseException")=some true)
  (g_NoTie:yds K (.ref CNoTie) "__getattribute__" =some (some (.builtin "BaseException.__getattribute__")))
  (ga_NoTie:yds K (.ref CNoTie) "__getattr__" =some none)
  (cl_NoTie:yds K (.ref CNoTie) "__class__" =some (some (.builtin "object.__class__")))
  (mo_NoTie:yeb K CNoTie (.type "object")=some true)
  (mb_NoTie:yeb K CNoTie (.type "BaseException")=some true)
  (x_hn:yga K (.builtin "object.__class__") "__get__" =some (some (.builtin "getset_descriptor.__get__")))
  (x_ht:ygq K (.builtin "object.__class__")=some true)
  (o_WP:yd7 K (.ref CNoWay) (.ref CNoPlace)=some false)
  (o_TP:yd7 K (.ref CNoTie) (.ref CNoPlace)=some false)
  (o_TW:yd7 K (.ref CNoTie) (.ref CNoWay)=some false)
  (z_ValueError:ych K mainGlobals "ValueError" =some none)
  (z_all:ych K mainGlobals "all" =some none)
  (z_bool:ych K mainGlobals "bool" =some none)
  (z_dict:ych K mainGlobals "dict" =some none)
  (z_enumerate:ych K mainGlobals "enumerate" =some none)
  (z_int:ych K mainGlobals "int" =some none)
  (z_isinstance:ych K mainGlobals "isinstance" =some none)
  (z_len:ych K mainGlobals "len" =some none)
  (z_list:ych K mainGlobals "list" =some none)
  (z_max:ych K mainGlobals "max" =some none)
  (z_range:ych K mainGlobals "range" =some none)
  (z_reversed:ych K mainGlobals "reversed" =some none)
  (z_set:ych K mainGlobals "set" =some none)
  (z_sorted:ych K mainGlobals "sorted" =some none)
  (z_tuple:ych K mainGlobals "tuple" =some none)
  (z_zip:ych K mainGlobals "zip" =some none)
  (t_tab:y20 K "parts" =true)
  : ∃(fd:FuncData) (c T:Addr),yfb K "parts" =some (c,T)∧(∀(s:Shared) (v:Value),BindsTo s fd ⟨[v], []⟩ [("_law_script",v)])∧(h.get? T=some (yfy #[])→∀base:Heap,(J7 K T).In base→base.Ns mainGlobals mg→yej base c T→base.BuiltinsAt mg T→FnOk l.prog w (J7 K T) mg base CX0 11 fa fd ["_law_script"] (zw T (J7 K T))):=by
 have e:=hfa.symm.trans (yco X G a40)
 cases e
 have z:Zs mg:=⟨ydd X G z_ValueError,ydd X G z_all,ydd X G z_bool,ydd X G z_dict,ydd X G z_enumerate,ydd X G z_int,ydd X G z_isinstance,ydd X G z_len,ydd X G z_list,ydd X G z_max,ydd X G z_range,ydd X G z_reversed,ydd X G z_set,ydd X G z_sorted,ydd X G z_tuple,ydd X G z_zip⟩
 have cLaneError:ClsAt K mg "LaneError" CLaneError:=⟨yco X G n_LaneError,x_LaneError⟩
 have cNoPlace:ClsAt K mg "NoPlace" CNoPlace:=⟨yco X G n_NoPlace,x_NoPlace⟩
 have cNoWay:ClsAt K mg "NoWay" CNoWay:=⟨yco X G n_NoWay,x_NoWay⟩
 have cNoTie:ClsAt K mg "NoTie" CNoTie:=⟨yco X G n_NoTie,x_NoTie⟩
 obtain⟨c,T,t_tab,t_no⟩:=y73 t_tab
 refine⟨ycq "law" "law" (yA Mf) (yu Mf) (ya Mf) .none kV40 dc40 pm40 an40 cd40 ct40,c,T,t_tab,fun s v=> .of_eq rfl,fun hT base _ _ hC hB=> ?_⟩
 rw [Zq t_no]
 have cTab:=y9l (yM (st:=J3) l10 c10 k10) X hT (y6y a10 l10 t_tab)
 rw [Zq t_no] at cTab
 have F0:=yM (st:=YD) l0 c0 k0
 have yX:DefAt K mg "are_places" YD YG _ _:=⟨F0,F0.binds (ps:=YG) fun _ _ _ _ _ _ us hl=>us2 (C:=fun us=>bindArgs _ ⟨us, []⟩=pure (yda _ us)) (fun _ _=>rfl) hl,yco X G a0⟩
 have F1:=yM (st:=yG) l1 c1 k1
 have y9:DefAt K mg "check_places" yG yk _ _:=⟨F1,F1.binds (ps:=yk) fun _ _ _ _ _ _ us hl=>us2 (C:=fun us=>bindArgs _ ⟨us, []⟩=pure (yda _ us)) (fun _ _=>rfl) hl,yco X G a1⟩
 have F2:=yM (st:=yw) l2 c2 k2
 have y4:DefAt K mg "check_lanes" yw yh _ _:=⟨F2,F2.binds (ps:=yh) fun _ _ _ _ _ _ us hl=>us2 (C:=fun us=>bindArgs _ ⟨us, []⟩=pure (yda _ us)) (fun _ _=>rfl) hl,yco X G a2⟩
 have F3:=yM (st:=YT) l3 c3 k3
 have Y5:DefAt K mg "both_ways" YT YS _ _:=⟨F3,F3.binds (ps:=YS) fun _ _ _ _ _ _ us hl=>us1 (C:=fun us=>bindArgs _ ⟨us, []⟩=pure (yda _ us)) (fun _=>rfl) hl,yco X G a3⟩
 have F4:=yM (st:=Yj) l4 c4 k4
 have yV:DefAt K mg "lanes_without" Yj Yt _ _:=⟨F4,F4.binds (ps:=Yt) fun _ _ _ _ _ _ us hl=>us2 (C:=fun us=>bindArgs _ ⟨us, []⟩=pure (yda _ us)) (fun _ _=>rfl) hl,yco X G a4⟩
 have F5:=yM (st:=J5) l5 c5 k5
 have j5:DefAt K mg "ends_by_place" J5 j3 _ _:=⟨F5,F5.binds (ps:=j3) fun _ _ _ _ _ _ us hl=>us1 (C:=fun us=>bindArgs _ ⟨us, []⟩=pure (yda _ us)) (fun _=>rfl) hl,yco X G a5⟩
 have F6:=yM (st:=jI) l6 c6 k6
 have Ym:DefAt K mg "reach" jI jn _ _:=⟨F6,F6.binds (ps:=jn) fun _ _ _ _ _ _ us hl=>us2 (C:=fun us=>bindArgs _ ⟨us, []⟩=pure (yda _ us)) (fun _ _=>rfl) hl,yco X G a6⟩
 have F7:=yM (st:=jM) l7 c7 k7
 have J8:DefAt K mg "row_to" jM jj _ _:=⟨F7,F7.binds (ps:=jj) fun _ _ _ _ _ _ us hl=>us2 (C:=fun us=>bindArgs _ ⟨us, []⟩=pure (yda _ us)) (fun _ _=>rfl) hl,yco X G a7⟩
 have F8:=yM (st:=Yv) l8 c8 k8
 have yD:DefAt K mg "walk_or_wall" Yv Yg _ _:=⟨F8,F8.binds (ps:=Yg) fun _ _ _ _ _ _ us hl=>us3 (C:=fun us=>bindArgs _ ⟨us, []⟩=pure (yda _ us)) (fun _ _ _=>rfl) hl,yco X G a8⟩
 have F9:=yM (st:=JI) l9 c9 k9
 have Vq:DefAt K mg "part_with" JI Vn _ _:=⟨F9,F9.binds (ps:=Vn) fun _ _ _ _ _ _ us hl=>us2 (C:=fun us=>bindArgs _ ⟨us, []⟩=pure (yda _ us)) (fun _ _=>rfl) hl,yco X G a9⟩
 have F10:=yM (st:=J3) l10 c10 k10
 have Yk:DefAt K mg "parts" J3 JJ _ _:=⟨F10,F10.binds (ps:=JJ) fun _ _ _ _ _ _ us hl=>us2 (C:=fun us=>bindArgs _ ⟨us, []⟩=pure (yda _ us)) (fun _ _=>rfl) hl,yco X G a10⟩
 have F11:=yM (st:=Yr) l11 c11 k11
 have yY:DefAt K mg "part_numbers" Yr Yl _ _:=⟨F11,F11.binds (ps:=Yl) fun _ _ _ _ _ _ us hl=>us2 (C:=fun us=>bindArgs _ ⟨us, []⟩=pure (yda _ us)) (fun _ _=>rfl) hl,yco X G a11⟩
 have F12:=yM (st:=Yd) l12 c12 k12
 have Yc:DefAt K mg "between_parts" Yd Yu _ _:=⟨F12,F12.binds (ps:=Yu) fun _ _ _ _ _ _ us hl=>us2 (C:=fun us=>bindArgs _ ⟨us, []⟩=pure (yda _ us)) (fun _ _=>rfl) hl,yco X G a12⟩
 have F13:=yM (st:=Ye) l13 c13 k13
 have yK:DefAt K mg "longest_rows" Ye Y8 _ _:=⟨F13,F13.binds (ps:=Y8) fun _ _ _ _ _ _ us hl=>us2 (C:=fun us=>bindArgs _ ⟨us, []⟩=pure (yda _ us)) (fun _ _=>rfl) hl,yco X G a13⟩
 have F14:=yM (st:=jt) l14 c14 k14
 have VR:DefAt K mg "depths" jt Vd _ _:=⟨F14,F14.binds (ps:=Vd) fun _ _ _ _ _ _ us hl=>us2 (C:=fun us=>bindArgs _ ⟨us, []⟩=pure (yda _ us)) (fun _ _=>rfl) hl,yco X G a14⟩
 have F15:=yM (st:=jc) l15 c15 k15
 have V9:DefAt K mg "deepest" jc jF _ _:=⟨F15,F15.binds (ps:=jF) fun _ _ _ _ _ _ us hl=>us2 (C:=fun us=>bindArgs _ ⟨us, []⟩=pure (yda _ us)) (fun _ _=>rfl) hl,yco X G a15⟩
 have F16:=yM (st:=Jh) l16 c16 k16
 have jg:DefAt K mg "round_trip" Jh JL _ _:=⟨F16,F16.binds (ps:=JL) fun _ _ _ _ _ _ us hl=>us4 (C:=fun us=>bindArgs _ ⟨us, []⟩=pure (yda _ us)) (fun _ _ _ _=>rfl) hl,yco X G a16⟩
 have F17:=yM (st:=Js) l17 c17 k17
 have Yo:DefAt K mg "leaders" Js Ja _ _:=⟨F17,F17.binds (ps:=Ja) fun _ _ _ _ _ _ us hl=>us3 (C:=fun us=>bindArgs _ ⟨us, []⟩=pure (yda _ us)) (fun _ _ _=>rfl) hl,yco X G a17⟩
 have F18:=yM (st:=Vy) l18 c18 k18
 have LG:DefAt K mg "musts" Vy L5 _ _:=⟨F18,F18.binds (ps:=L5) fun _ _ _ _ _ _ us hl=>us4 (C:=fun us=>bindArgs _ ⟨us, []⟩=pure (yda _ us)) (fun _ _ _ _=>rfl) hl,yco X G a18⟩
 have F19:=yM (st:=YY) l19 c19 k19
 have YC:DefAt K mg "ring_or_wall" YY Jm _ _:=⟨F19,F19.binds (ps:=Jm) fun _ _ _ _ _ _ us hl=>us2 (C:=fun us=>bindArgs _ ⟨us, []⟩=pure (yda _ us)) (fun _ _=>rfl) hl,yco X G a19⟩
 have F20:=yM (st:=YE) l20 c20 k20
 have JD:DefAt K mg "newly_joining" YE JE _ _:=⟨F20,F20.binds (ps:=JE) fun _ _ _ _ _ _ us hl=>us2 (C:=fun us=>bindArgs _ ⟨us, []⟩=pure (yda _ us)) (fun _ _=>rfl) hl,yco X G a20⟩
 have F21:=yM (st:=JS) l21 c21 k21
 have V3:DefAt K mg "bridges" JS jE _ _:=⟨F21,F21.binds (ps:=jE) fun _ _ _ _ _ _ us hl=>us2 (C:=fun us=>bindArgs _ ⟨us, []⟩=pure (yda _ us)) (fun _ _=>rfl) hl,yco X G a21⟩
 have F22:=yM (st:=j9) l22 c22 k22
 have V2:DefAt K mg "tie_told" j9 jB _ _:=⟨F22,F22.binds (ps:=jB) fun _ _ _ _ _ _ us hl=>us3 (C:=fun us=>bindArgs _ ⟨us, []⟩=pure (yda _ us)) (fun _ _ _=>rfl) hl,yco X G a22⟩
 have F23:=yM (st:=YX) l23 c23 k23
 have ju:DefAt K mg "neighbours" YX jr _ _:=⟨F23,F23.binds (ps:=jr) fun _ _ _ _ _ _ us hl=>us2 (C:=fun us=>bindArgs _ ⟨us, []⟩=pure (yda _ us)) (fun _ _=>rfl) hl,yco X G a23⟩
 have F24:=yM (st:=Yp) l24 c24 k24
 have Yq:DefAt K mg "walks_or_wall" Yp J6 _ _:=⟨F24,F24.binds (ps:=J6) fun _ _ _ _ _ _ us hl=>us2 (C:=fun us=>bindArgs _ ⟨us, []⟩=pure (yda _ us)) (fun _ _=>rfl) hl,yco X G a24⟩
 have F25:=yM (st:=J1) l25 c25 k25
 have ji:DefAt K mg "cut_places" J1 JO _ _:=⟨F25,F25.binds (ps:=JO) fun _ _ _ _ _ _ us hl=>us2 (C:=fun us=>bindArgs _ ⟨us, []⟩=pure (yda _ us)) (fun _ _=>rfl) hl,yco X G a25⟩
 have F26:=yM (st:=Jf) l26 c26 k26
 have ja:DefAt K mg "place_told" Jf JN _ _:=⟨F26,F26.binds (ps:=JN) fun _ _ _ _ _ _ us hl=>us3 (C:=fun us=>bindArgs _ ⟨us, []⟩=pure (yda _ us)) (fun _ _ _=>rfl) hl,yco X G a26⟩
 have F27:=yM (st:=jq) l27 c27 k27
 have VQ:DefAt K mg "is_walk" jq Vf _ _:=⟨F27,F27.binds (ps:=Vf) fun _ _ _ _ _ _ us hl=>us3 (C:=fun us=>bindArgs _ ⟨us, []⟩=pure (yda _ us)) (fun _ _ _=>rfl) hl,yco X G a27⟩
 have F28:=yM (st:=JX) l28 c28 k28
 have VO:DefAt K mg "is_shut" JX Vj _ _:=⟨F28,F28.binds (ps:=Vj) fun _ _ _ _ _ _ us hl=>us3 (C:=fun us=>bindArgs _ ⟨us, []⟩=pure (yda _ us)) (fun _ _ _=>rfl) hl,yco X G a28⟩
 have F29:=yM (st:=Lq) l29 c29 k29
 have MY:DefAt K mg "walk" Lq M1 _ _:=⟨F29,F29.binds (ps:=M1) fun _ _ _ _ _ _ us hl=>us4 (C:=fun us=>bindArgs _ ⟨us, []⟩=pure (yda _ us)) (fun _ _ _ _=>rfl) hl,yco X G a29⟩
 have F30:=yM (st:=jT) l30 c30 k30
 have VS:DefAt K mg "around" jT Ve _ _:=⟨F30,F30.binds (ps:=Ve) fun _ _ _ _ _ _ us hl=>us5 (C:=fun us=>bindArgs _ ⟨us, []⟩=pure (yda _ us)) (fun _ _ _ _ _=>rfl) hl,yco X G a30⟩
 have F31:=yM (st:=jP) l31 c31 k31
 have VP:DefAt K mg "joined" jP Vl _ _:=⟨F31,F31.binds (ps:=Vl) fun _ _ _ _ _ _ us hl=>us4 (C:=fun us=>bindArgs _ ⟨us, []⟩=pure (yda _ us)) (fun _ _ _ _=>rfl) hl,yco X G a31⟩
 have F32:=yM (st:=VZ) l32 c32 k32
 have VC:DefAt K mg "_law_upto" VZ Mr _ _:=⟨F32,F32.binds (ps:=Mr) fun _ _ _ _ _ _ us hl=>us3 (C:=fun us=>bindArgs _ ⟨us, []⟩=pure (yda _ us)) (fun _ _ _=>rfl) hl,yco X G a32⟩
 have F33:=yM (st:=Vc) l33 c33 k33
 have jQ:DefAt K mg "_law_whole" Vc LC _ _:=⟨F33,F33.binds (ps:=LC) fun _ _ _ _ _ _ us hl=>us1 (C:=fun us=>bindArgs _ ⟨us, []⟩=pure (yda _ us)) (fun _=>rfl) hl,yco X G a33⟩
 have F34:=yM (st:=ZB) l34 c34 k34
 have JT:DefAt K mg "_law_at" ZB qv _ _:=⟨F34,F34.binds (ps:=qv) fun _ _ _ _ _ _ us hl=>us2 (C:=fun us=>bindArgs _ ⟨us, []⟩=pure (yda _ us)) (fun _ _=>rfl) hl,yco X G a34⟩
 have F35:=yM (st:=j8) l35 c35 k35
 have Va:DefAt K mg "_law_lanes_by" j8 Vm _ _:=⟨F35,F35.binds (ps:=Vm) fun _ _ _ _ _ _ us hl=>us3 (C:=fun us=>bindArgs _ ⟨us, []⟩=pure (yda _ us)) (fun _ _ _=>rfl) hl,yco X G a35⟩
 have F36:=yM (st:=Jl) l36 c36 k36
 have jp:DefAt K mg "_law_same_lanes" Jl jo _ _:=⟨F36,F36.binds (ps:=jo) fun _ _ _ _ _ _ us hl=>us2 (C:=fun us=>bindArgs _ ⟨us, []⟩=pure (yda _ us)) (fun _ _=>rfl) hl,yco X G a36⟩
 have F37:=yM (st:=Vk) l37 c37 k37
 have LA:DefAt K mg "_law_alone" Vk LB _ _:=⟨F37,F37.binds (ps:=LB) fun _ _ _ _ _ _ us hl=>us3 (C:=fun us=>bindArgs _ ⟨us, []⟩=pure (yda _ us)) (fun _ _ _=>rfl) hl,yco X G a37⟩
 have F38:=yM (st:=j6) l38 c38 k38
 have Vi:DefAt K mg "_law_with_two" j6 Vo _ _:=⟨F38,F38.binds (ps:=Vo) fun _ _ _ _ _ _ us hl=>us6 (C:=fun us=>bindArgs _ ⟨us, []⟩=pure (yda _ us)) (fun _ _ _ _ _ _=>rfl) hl,yco X G a38⟩
 have F39:=yM (st:=j7) l39 c39 k39
 have Vg:DefAt K mg "_law_refuses" j7 Vh _ _:=⟨F39,F39.binds (ps:=Vh) fun _ _ _ _ _ _ us hl=>us6 (C:=fun us=>bindArgs _ ⟨us, []⟩=pure (yda _ us)) (fun _ _ _ _ _ _=>rfl) hl,yco X G a39⟩
 have F40:=yM (st:=Mf) l40 c40 k40
 have dLaw:DefAt K mg "law" Mf PLaw _ _:=⟨F40,F40.binds (ps:=PLaw) fun _ _ _ _ _ _ us hl=>us1 (C:=fun us=>bindArgs _ ⟨us, []⟩=pure (yda _ us)) (fun _=>rfl) hl,yco X G a40⟩
 have GA:=ybp (P:=l.prog) (w:=w) (base:=base) yX z
 have GC:=y6t y9 yX GA
 have GL:=y4d y4 y9 GC
 have XC:=y46 cNoPlace y9 yX GA
 have XL:=y2b y4 y9 XC
 have GE:=yal (P:=l.prog) (w:=w) (base:=base) j5
 have GR:=y7w Ym z j5 GE
 have GT:=yc0 (P:=l.prog) (w:=w) (base:=base) J8 z
 have GTl:=ya1 (P:=l.prog) (w:=w) (base:=base) J8 z
 have GW:=ok_ww yD z Ym GR J8 GT
 have GBo:=yae (P:=l.prog) (w:=w) (base:=base) Y5
 have GWo:=y28 (P:=l.prog) (w:=w) (base:=base) yV
 have GNe:=y99 ju z Y5 GBo
 have GPl:=y6j Yq z ju GNe Ym GR J8 GT Y5 GBo yV GWo
 have GRi:=y8r YC yD GW Y5 GBo
 have GN:=y7q (P:=l.prog) (w:=w) (base:=base) JD z
 have GPw:=y6c (P:=l.prog) (w:=w) (base:=base) Vq z
 have GPa:=y6a cTab hC hB z y4 GL Ym GR Vq GPw
 have GNu:=y9f yY z Yk GPa
 have GBe:=y97 Yc z yY GNu
 have GRo:=yaf yK z Yk GPa Yc GBe
 have GDe:=y48 VR z yK GRo
 have GDp:=y2a V9 z yK GRo
 have GIw:=y3t VQ z yX GA y4 GL
 have GIs:=y9i VO z yX GA y4 GL
 have GBr:=y2d V3 y4 GL YC GRi JD GN
 have GTi:=ybv cNoTie V2 z y4 GL YC GRi
 have GCu:=y95 ji z y4 GL Yq GPl
 have GPt:=y71 ja y4 GL y9 GC Yq GPl
 have GWa:=y9m MY y4 GL y9 GC yD GW
 have GJo:=y5j VP y4 GL y9 GC yD GW Y5 GBo
 have GTr:=yai jg y4 GL y9 GC yD GW
 have GLe:=y1x Yo z y4 GL y9 GC Ym GR yV GWo
 have GMu:=y4l cNoWay LG y9 GC Yo GLe J8 GTl
 have GAr:=y4c cNoPlace VS y4 GL y9 GC yD GW yV GWo
 have BPa:=y4y (T:=T) cTab y4 XL
 have BNu:=Qu yY z Yk BPa
 have BBe:=Q4 Yc z yY BNu
 have BRo:=Qk yK z Yk BPa
 have BDe:=y22 VR z yK BRo
 have BDp:=WZ V9 z yK BRo
 have BLe:=WV Yo y4 XL y9 XC
 have GAl:=y5x LA VQ (GIw.lift.or (y06 VQ y4 XL)) VO (GIs.lift.or (WW VO y4 XL)) Yk (GPa.lift.or BPa) yY (GNu.lift.or BNu) Yc (GBe.lift.or BBe) VR (GDe.lift.or BDe) V9 (GDp.lift.or BDp)
  V3 (GBr.lift.or (WX V3 y4 XL)) ji (GCu.lift.or (qW ji y4 XL)) V2 (GTi.or (zN V2 y4 XL))
 have GTw:=yaz Vi MY (GWa.lift.or (y79 MY y4 XL y9 XC)) VP (GJo.lift.or (y2s VP y4 XL y9 XC)) jg (GTr.lift.or (qD jg y4 XL y9 XC))
  LG (GMu.or (y3p LG y9 XC Yo BLe)) Yo (GLe.lift.or BLe) ja (GPt.lift.or (qP ja y4 XL y9 XC)) VS (GAr.or (y1s VS y4 XL y9 XC))
 have GRf:=y2m z cNoPlace cNoWay cNoTie cLaneError m_NoPlace i_NoPlace m_NoWay i_NoWay m_NoTie i_NoTie ⟨g_NoWay,ga_NoWay,cl_NoWay,mo_NoWay,mb_NoWay,x_hn,x_ht⟩ ⟨g_NoTie,ga_NoTie,cl_NoTie,mo_NoTie,mb_NoTie,x_hn,x_ht⟩ o_WP o_TP o_TW Vg LA GAl Vi GTw
 have GU:=ya0 (P:=l.prog) (w:=w) (base:=base) VC z
 have GH:=y7i (P:=l.prog) (w:=w) (base:=base) jQ z
 have GAt:=ok_at (P:=l.prog) (w:=w) (base:=base) JT z
 have GB:=y2j (P:=l.prog) (w:=w) (base:=base) Va z
 have GS:=y8t jp z jQ GH
 exact ybt dLaw z VC GU JT GAt Va GB jp GS Vg GRf
theorem walkL{l:yi5}{q:Program}{loose:List Str}{XP:(Str→Option Value)→Heap→Prop}{YP:World→Heap→Prop}{d dg:DefRec}{K:Params→yc3}(hn:l.most=some 63)(hdf:d.params.defaults= [])(hrec:(PyProof.Rows.recsOf q).find? (fun e:DefRec=>e.name == ("parts" :Str))=some dg)
  (hY:∀(w:World) (h:Heap),YP w h→(K w.params).In h)
  (F:∀(w:World) (mg:Str→Option Value) (fa:Addr) (h:Heap),(K w.params).In h→h.Ns mainGlobals mg→mg d.name=some (.ref fa)→
   ∃(fd:FuncData) (c T:Addr),yfb (K w.params) "parts" =some (c,T)∧(∀(s:Shared) (u:Value),BindsTo s fd ⟨[u], []⟩ [("_law_script",u)])∧
    (h.get? T=some (yfy #[])→∀base:Heap,(J7 (K w.params) T).In base→base.Ns mainGlobals mg→yej base c T→base.BuiltinsAt mg T→FnOk l.prog w (J7 (K w.params) T) mg base CX0 11 fa fd ["_law_script"] (zw T (J7 (K w.params) T)))) :
  PySem.W.WalkO q loose XP YP l.row.toRowW d [] (fun f vs=>PySem.call f vs):=
 L2.walk_ofT (n:=63) (k:=11) (x:="_law_script") (g:="parts") (sp:=fun K T=>zw T K) hn (by decide) hdf ⟨rfl,by decide,by decide⟩ hrec hY F (fun K T H a ns hl hT hS=>⟨a,ns,rfl,hS,hl,y4b hT,fun _=>rfl⟩)
end Toy
open PySem PySem.W PyProof.Rows
set_option maxRecDepth 100000 in
set_option maxHeartbeats 0 in
theorem PySem.Challenge.cw_lanemap_k13_no_place_holds : PySem.Challenge.rw_lanemap_k13_no_place.Holds := by
 refine Toy.head ?_
 k_fill
 refine Toy.walkL (l:=PySem.Challenge.rw_lanemap_k13_no_place) rfl rfl rfl (fun w h Y=>PySem.W.km_in_of Y) ?F
 case F=>
  intro w mg fa h KX G hmg
  refine' Toy.all_mk KX G hmg ?a0 ?l0 ?c0 ?k0 ?a1 ?l1 ?c1 ?k1 ?a2 ?l2 ?c2 ?k2 ?a3 ?l3 ?c3 ?k3 ?a4 ?l4 ?c4 ?k4 ?a5 ?l5 ?c5 ?k5 ?a6 ?l6 ?c6 ?k6 ?a7 ?l7 ?c7 ?k7 ?a8 ?l8 ?c8 ?k8 ?a9 ?l9 ?c9 ?k9 ?a10 ?l10 ?c10 ?k10 ?a11 ?l11 ?c11 ?k11 ?a12 ?l12 ?c12 ?k12 ?a13 ?l13 ?c13 ?k13 ?a14 ?l14 ?c14 ?k14 ?a15 ?l15 ?c15 ?k15 ?a16 ?l16 ?c16 ?k16 ?a17 ?l17 ?c17 ?k17 ?a18 ?l18 ?c18 ?k18 ?a19 ?l19 ?c19 ?k19 ?a20 ?l20 ?c20 ?k20 ?a21 ?l21 ?c21 ?k21 ?a22 ?l22 ?c22 ?k22 ?a23 ?l23 ?c23 ?k23 ?a24 ?l24 ?c24 ?k24 ?a25 ?l25 ?c25 ?k25 ?a26 ?l26 ?c26 ?k26 ?a27 ?l27 ?c27 ?k27 ?a28 ?l28 ?c28 ?k28 ?a29 ?l29 ?c29 ?k29 ?a30 ?l30 ?c30 ?k30 ?a31 ?l31 ?c31 ?k31 ?a32 ?l32 ?c32 ?k32 ?a33 ?l33 ?c33 ?k33 ?a34 ?l34 ?c34 ?k34 ?a35 ?l35 ?c35 ?k35 ?a36 ?l36 ?c36 ?k36 ?a37 ?l37 ?c37 ?k37 ?a38 ?l38 ?c38 ?k38 ?a39 ?l39 ?c39 ?k39 ?a40 ?l40 ?c40 ?k40 ?n_LaneError ?x_LaneError ?n_NoPlace ?x_NoPlace ?n_NoWay ?x_NoWay ?n_NoTie ?x_NoTie ?m_NoPlace ?i_NoPlace ?m_NoWay ?i_NoWay ?m_NoTie ?i_NoTie ?g_NoWay ?ga_NoWay ?cl_NoWay ?mo_NoWay ?mb_NoWay ?g_NoTie ?ga_NoTie ?cl_NoTie ?mo_NoTie ?mb_NoTie ?x_hn ?x_ht ?o_WP ?o_TP ?o_TW ?z_ValueError ?z_all ?z_bool ?z_dict ?z_enumerate ?z_int ?z_isinstance ?z_len ?z_list ?z_max ?z_range ?z_reversed ?z_set ?z_sorted ?z_tuple ?z_zip ?t_tab
  (case a0=>k_is)
  (case l0=>k_is)
  (case c0=>k_is)
  (case k0=>k_is)
  (case a1=>k_is)
  (case l1=>k_is)
  (case c1=>k_is)
  (case k1=>k_is)
  (case a2=>k_is)
  (case l2=>k_is)
  (case c2=>k_is)
  (case k2=>k_is)
  (case a3=>k_is)
  (case l3=>k_is)
  (case c3=>k_is)
  (case k3=>k_is)
  (case a4=>k_is)
  (case l4=>k_is)
  (case c4=>k_is)
  (case k4=>k_is)
  (case a5=>k_is)
  (case l5=>k_is)
  (case c5=>k_is)
  (case k5=>k_is)
  (case a6=>k_is)
  (case l6=>k_is)
  (case c6=>k_is)
  (case k6=>k_is)
  (case a7=>k_is)
  (case l7=>k_is)
  (case c7=>k_is)
  (case k7=>k_is)
  (case a8=>k_is)
  (case l8=>k_is)
  (case c8=>k_is)
  (case k8=>k_is)
  (case a9=>k_is)
  (case l9=>k_is)
  (case c9=>k_is)
  (case k9=>k_is)
  (case a10=>k_is)
  (case l10=>k_is)
  (case c10=>k_is)
  (case k10=>k_is)
  (case a11=>k_is)
  (case l11=>k_is)
  (case c11=>k_is)
  (case k11=>k_is)
  (case a12=>k_is)
  (case l12=>k_is)
  (case c12=>k_is)
  (case k12=>k_is)
  (case a13=>k_is)
  (case l13=>k_is)
  (case c13=>k_is)
  (case k13=>k_is)
  (case a14=>k_is)
  (case l14=>k_is)
  (case c14=>k_is)
  (case k14=>k_is)
  (case a15=>k_is)
  (case l15=>k_is)
  (case c15=>k_is)
  (case k15=>k_is)
  (case a16=>k_is)
  (case l16=>k_is)
  (case c16=>k_is)
  (case k16=>k_is)
  (case a17=>k_is)
  (case l17=>k_is)
  (case c17=>k_is)
  (case k17=>k_is)
  (case a18=>k_is)
  (case l18=>k_is)
  (case c18=>k_is)
  (case k18=>k_is)
  (case a19=>k_is)
  (case l19=>k_is)
  (case c19=>k_is)
  (case k19=>k_is)
  (case a20=>k_is)
  (case l20=>k_is)
  (case c20=>k_is)
  (case k20=>k_is)
  (case a21=>k_is)
  (case l21=>k_is)
  (case c21=>k_is)
  (case k21=>k_is)
  (case a22=>k_is)
  (case l22=>k_is)
  (case c22=>k_is)
  (case k22=>k_is)
  (case a23=>k_is)
  (case l23=>k_is)
  (case c23=>k_is)
  (case k23=>k_is)
  (case a24=>k_is)
  (case l24=>k_is)
  (case c24=>k_is)
  (case k24=>k_is)
  (case a25=>k_is)
  (case l25=>k_is)
  (case c25=>k_is)
  (case k25=>k_is)
  (case a26=>k_is)
  (case l26=>k_is)
  (case c26=>k_is)
  (case k26=>k_is)
  (case a27=>k_is)
  (case l27=>k_is)
  (case c27=>k_is)
  (case k27=>k_is)
  (case a28=>k_is)
  (case l28=>k_is)
  (case c28=>k_is)
  (case k28=>k_is)
  (case a29=>k_is)
  (case l29=>k_is)
  (case c29=>k_is)
  (case k29=>k_is)
  (case a30=>k_is)
  (case l30=>k_is)
  (case c30=>k_is)
  (case k30=>k_is)
  (case a31=>k_is)
  (case l31=>k_is)
  (case c31=>k_is)
  (case k31=>k_is)
  (case a32=>k_is)
  (case l32=>k_is)
  (case c32=>k_is)
  (case k32=>k_is)
  (case a33=>k_is)
  (case l33=>k_is)
  (case c33=>k_is)
  (case k33=>k_is)
  (case a34=>k_is)
  (case l34=>k_is)
  (case c34=>k_is)
  (case k34=>k_is)
  (case a35=>k_is)
  (case l35=>k_is)
  (case c35=>k_is)
  (case k35=>k_is)
  (case a36=>k_is)
  (case l36=>k_is)
  (case c36=>k_is)
  (case k36=>k_is)
  (case a37=>k_is)
  (case l37=>k_is)
  (case c37=>k_is)
  (case k37=>k_is)
  (case a38=>k_is)
  (case l38=>k_is)
  (case c38=>k_is)
  (case k38=>k_is)
  (case a39=>k_is)
  (case l39=>k_is)
  (case c39=>k_is)
  (case k39=>k_is)
  (case a40=>k_is)
  (case l40=>k_is)
  (case c40=>k_is)
  (case k40=>k_is)
  (case n_LaneError=>first | k_is | k_exc)
  (case x_LaneError=>first | k_is | k_exc)
  (case n_NoPlace=>first | k_is | k_exc)
  (case x_NoPlace=>first | k_is | k_exc)
  (case n_NoWay=>first | k_is | k_exc)
  (case x_NoWay=>first | k_is | k_exc)
  (case n_NoTie=>first | k_is | k_exc)
  (case x_NoTie=>first | k_is | k_exc)
  (case m_NoPlace=>first | k_is | kts_exm | kit_is)
  (case i_NoPlace=>first | k_is | kts_exm | kit_is)
  (case m_NoWay=>first | k_is | kts_exm | kit_is)
  (case i_NoWay=>first | k_is | kts_exm | kit_is)
  (case m_NoTie=>first | k_is | kts_exm | kit_is)
  (case i_NoTie=>first | k_is | kts_exm | kit_is)
  (case g_NoWay=>first | k_is | kit_is | kernel_rfl | decide)
  (case ga_NoWay=>first | k_is | kit_is | kernel_rfl | decide)
  (case cl_NoWay=>first | k_is | kit_is | kernel_rfl | decide)
  (case mo_NoWay=>first | k_is | kit_is | kernel_rfl | decide)
  (case mb_NoWay=>first | k_is | kit_is | kernel_rfl | decide)
  (case g_NoTie=>first | k_is | kit_is | kernel_rfl | decide)
  (case ga_NoTie=>first | k_is | kit_is | kernel_rfl | decide)
  (case cl_NoTie=>first | k_is | kit_is | kernel_rfl | decide)
  (case mo_NoTie=>first | k_is | kit_is | kernel_rfl | decide)
  (case mb_NoTie=>first | k_is | kit_is | kernel_rfl | decide)
  (case x_hn=>first | k_is | kit_is | kernel_rfl | decide)
  (case x_ht=>first | k_is | kit_is | kernel_rfl | decide)
  (case o_WP=>first | k_is | kit_is | kernel_rfl | decide)
  (case o_TP=>first | k_is | kit_is | kernel_rfl | decide)
  (case o_TW=>first | k_is | kit_is | kernel_rfl | decide)
  (case z_ValueError=>k_is)
  (case z_all=>k_is)
  (case z_bool=>k_is)
  (case z_dict=>k_is)
  (case z_enumerate=>k_is)
  (case z_int=>k_is)
  (case z_isinstance=>k_is)
  (case z_len=>k_is)
  (case z_list=>k_is)
  (case z_max=>k_is)
  (case z_range=>k_is)
  (case z_reversed=>k_is)
  (case z_set=>k_is)
  (case z_sorted=>k_is)
  (case z_tuple=>k_is)
  (case z_zip=>k_is)
  (case t_tab=>kernel_rfl)
