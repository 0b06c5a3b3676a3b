/- Parts of the proof. -/
import Derived.Test.YtjghbciepinofaaGreatPL
import Derived.Test.YtjghbciepinofaaGreatPK43
set_option maxRecDepth 100000
set_option maxHeartbeats 16000000
namespace Go.Proofs.YtjghbciepinofaaGreat
open Go.Proofs.Tryz
open Value renaming int->J,slice->J1,pointer->J2,bool->J3,agg->J4
open IntKind renaming i64->I
open Obj renaming cells->J5
namespace Pv
open Go.RowKit
theorem z4g:(prog.info? 47).map (·.size)=some 97:=by kernel_rfl
theorem z0h:zeroCells47.size=97:=by kernel_rfl
theorem z9N{w:World}{b:Nat}{p:Pr}{v:PrV}(h:CAt 47 w b (prC p v)):w.rangeAt b 2 (stC p.s v.ws).toList:=h.part fun j x a=>by
 have c:j<63:=(List.getElem?_eq_some_iff.1 a).1;simp only[prC,List.getElem?_toArray];rw[show 2+j=j+2 by omega]
 show ((stC p.s v.ws).toList ++ _)[j]?=_
 rw[List.getElem?_append_left (by simpa [z0d] using c)]
 exact a
theorem q4l{p:Pr}{v:PrV}(u:Value):(prC p v).setIfInBounds 65 u=prC p { v with set:=u }:=rfl
theorem j0Q{p:Pr}{v:PrV}(u:Value):(prC p v).setIfInBounds 96 u=prC p { v with q:=u }:=rfl
theorem j0j{p:Pr}{v:PrV}(u:Value):spl (prC p v) 2 (stC p.s u).toList=prC p { v with ws:=u }:=q3F [J I p.h,J I p.t] (stC p.s v.ws).toList _ (stC p.s u).toList rfl
def PrV.upd(v:PrV)(k:Nat)(x:LkV):PrV:={ v with l:=fun i=>if i=k then x else v.l i }
theorem z9X(p:Pr)(v:PrV)(k:Nat)(b:k<2):∃ a c:List Value,a.length=66+k * 14/\prC p v=(a ++ (lkL (p.L k) (v.l k) ++ c)).toArray/\∀ x,prC p (v.upd k x)=(a ++ (lkL (p.L k) x ++ c)).toArray:=by
 have h0:([J I p.h,J I p.t] ++ ((stC p.s v.ws).toList ++ [v.set]):List Value).length=66:=by simp[z0d]
 match k,b with
 | 0,_ =>
  refine⟨[J I p.h,J I p.t] ++ ((stC p.s v.ws).toList ++ [v.set]),lkL (p.L 1) (v.l 1) ++ [J I p.ml,J I p.mn,v.q],h0,?_,fun x=>?_⟩
  ·simp[prC]
  ·simp[prC,PrV.upd]
 | 1,_ =>
  refine⟨[J I p.h,J I p.t] ++ ((stC p.s v.ws).toList ++ [v.set]) ++ lkL (p.L 0) (v.l 0),[J I p.ml,J I p.mn,v.q],?_,?_,fun x=>?_⟩
  ·rw[List.length_append,h0];rfl
  ·simp[prC]
  ·simp[prC,PrV.upd]
theorem j0g{p:Pr}{v:PrV}(k:Nat)(d:k<2)(T D S U:Value):((((((prC p v).setIfInBounds (66+k * 14+3) T).setIfInBounds (66+k * 14+5) D).setIfInBounds (66+k * 14+6) S).setIfInBounds (66+k * 14+7) U).setIfInBounds (66+k * 14+8) (J I (p.L k).out.g)).setIfInBounds (66+k * 14+9) (J3 (p.L k).out.cl)=prC p (v.upd k ⟨T,D,S,U⟩):=by
 obtain⟨a,c,b,h1,h2⟩:=z9X p v k d;rw[h1,h2,set_mid _ _ _ _ _ _ b (by show 3<14;omega),set_mid _ _ _ _ _ _ b (by simp[lkL]),set_mid _ _ _ _ _ _ b (by simp[lkL]),set_mid _ _ _ _ _ _ b (by simp[lkL]),set_mid _ _ _ _ _ _ b (by simp[lkL]),set_mid _ _ _ _ _ _ b (by simp[lkL])]
 rfl
theorem z2E{p:Pr}{v:PrV}(k:Nat)(b:k<2)(j:Nat)(d:j<14):(prC p v)[66+k * 14+j]?=(lkL (p.L k) (v.l k))[j]?:=by
 obtain⟨a,c,e,h1,h2⟩:=z9X p v k b;rw[h1,List.getElem?_toArray,List.getElem?_append_right (by omega),e,Nat.add_sub_cancel_left,List.getElem?_append_left (by exact d)]
structure CpS(w:World)(p:Pr)(v0:PrV)(k:Nat)(v:PrV)(wl:World):Prop where
 C:CAt 47 wl w.heap.size (prC p v)
 R:CAt 47 wl (w.heap.size+1) zeroCells47
 B:Bl w wl
 ws:wl.ownsRow (w.heap.size+2) 127 8 v.ws p.s.W.length (wsL p.s.W)
 set:Rep (fun b=>w.heap.size+2<=b) wl v.set 2 16 (pwC p.set)
 lk:∀ c,c<k->z5Z (fun b=>w.heap.size+2<=b) wl (p.L c) (v.l c)
 hl:∀ c,k<=c->v.l c=v0.l c
 hq:v.q=v0.q
theorem CpS.lt{w:World}{p:Pr}{v0:PrV}{k:Nat}{v:PrV}{wl:World}(h:CpS w p v0 k v wl):w.heap.size+2<=wl.heap.size:=by have:=h.R.lt;omega
theorem j0G(w:World){g b:Nat}(a:b≠g)(c d e f h i:Nat)(T D S U x y:Value):((((((w.setCell ⟨g,c,none⟩ T).setCell ⟨g,d,none⟩ D).setCell ⟨g,e,none⟩ S).setCell ⟨g,f,none⟩ U).setCell ⟨g,h,none⟩ x).setCell ⟨g,i,none⟩ y).heap[b]?=w.heap[b]?:=by
 rw[Below.heap_setCell _ _ _ _ a,Below.heap_setCell _ _ _ _ a,Below.heap_setCell _ _ _ _ a,Below.heap_setCell _ _ _ _ a,Below.heap_setCell _ _ _ _ a,Below.heap_setCell _ _ _ _ a]
theorem CpS.next{w:World}{p:Pr}{v0:PrV}{k:Nat}{v:PrV}{wl w5:World}(h:CpS w p v0 k v wl)(n:k<2)(f:Bl wl w5){T D S U:Value}(j:Lk4 wl.heap.size w5 (p.L k) T D S U) :
  CpS w p v0 (k+1) (v.upd k ⟨T,D,S,U⟩) ((((((w5.setCell ⟨w.heap.size,66+k * 14+3,none⟩ T).setCell ⟨w.heap.size,66+k * 14+5,none⟩ D).setCell ⟨w.heap.size,66+k * 14+6,none⟩ S).setCell ⟨w.heap.size,66+k * 14+7,none⟩ U).setCell ⟨w.heap.size,66+k * 14+8,none⟩ (J I (p.L k).out.g)).setCell ⟨w.heap.size,66+k * 14+9,none⟩ (J3 (p.L k).out.cl)):=by
 have i:=h.lt;have m:=((((((h.C.over f).set (66+k * 14+3) T).set (66+k * 14+5) D).set (66+k * 14+6) S).set (66+k * 14+7) U).set (66+k * 14+8) (J I (p.L k).out.g)).set (66+k * 14+9) (J3 (p.L k).out.cl);rw[j0g k n]at m;have d:=fun (b:Nat) (f:b≠w.heap.size)=>j0G w5 f (66+k * 14+3) (66+k * 14+5) (66+k * 14+6) (66+k * 14+7) (66+k * 14+8) (66+k * 14+9) T D S U (J I (p.L k).out.g) (J3 (p.L k).out.cl);refine⟨m,(h.R.over f).keep (d _ (by omega)),?_,?_,?_,fun c o=>?_,fun c o=>?_,h.hq⟩
 ·exact ((((((zbt h.B f).setCell (p:=⟨w.heap.size,_,none⟩) (Nat.le_refl _) _).setCell (p:=⟨w.heap.size,_,none⟩) (Nat.le_refl _) _).setCell (p:=⟨w.heap.size,_,none⟩) (Nat.le_refl _) _).setCell (p:=⟨w.heap.size,_,none⟩) (Nat.le_refl _) _).setCell (p:=⟨w.heap.size,_,none⟩) (Nat.le_refl _) _).setCell (p:=⟨w.heap.size,_,none⟩) (Nat.le_refl _) _
 ·exact Ln.z0n (Ln.z2j h.ws f) fun b l=>d b (by have:=(World.ownsRow.lt h.ws b l).1;omega)
 ·exact (h.set.over f).keep fun b a _=>d b (by have:w.heap.size+2<=b:=a;omega)
 ·by_cases e:c=k
  ·subst e
   show z5Z _ _ _ (if c=c then _ else _)
   rw[if_pos rfl];have key:∀ {u:Value} {s t:Nat} {cs:List Value},Rep (fun b=>wl.heap.size<=b) w5 u s t cs->Rep (fun b=>w.heap.size+2<=b) _ u s t cs:=fun q=>(q.mono (P':=fun b=>w.heap.size+2<=b) fun b _ a=>Nat.le_trans i a).keep fun b a _=>d b (by have:w.heap.size+2<=b:=a;omega)
   exact⟨key j.told,key j.done,(key j.said).c,(key j.due).c⟩
  ·show z5Z _ _ _ (if c=k then _ else _)
   rw[if_neg e];exact ((h.lk c (by omega)).keep fun b _ i=>f.block b i).keep fun b a _=>d b (by have:w.heap.size+2<=b:=a;omega)
 ·show (if c=k then _ else _)=_
  rw[if_neg (by omega)]
  exact h.hl c (by omega)
theorem Rep.one{P:Nat->Prop}{w:World}{v:Value}{sz bts:Nat}{cs:List Value}(h:Rep P w v sz bts cs):v.oneCell'=true:=by
 obtain⟨_,_,_,rfl,_⟩:=h;rfl
theorem z5S{P:Nat->Prop}{w:World}{x:Lk}{v:LkV}(h:z5Z P w x v):∀ u∈lkL x v,u.oneCell'=true:=fun u hu=>by
 simp only[lkL,List.mem_cons,List.not_mem_nil,or_false]at hu
 rcases hu with rfl | rfl | rfl | rfl | rfl | rfl | rfl | rfl | rfl | rfl | rfl | rfl | rfl | rfl <;> first | rfl | exact h.told.one | exact h.done.one | exact h.said.one | exact h.due.one
theorem z2y{P:Nat->Prop}{w:World}{p:Pr}{v:PrV}(h:PIn P w p v):(prC p v).all (·.oneCell')=true:=by
 obtain⟨A,n,C,e,_⟩:=h.ws;have a:(stC p.s v.ws).all (·.oneCell')=true:=by rw[e];exact z0q _ _ _ _
 rw[Array.all_eq_true_iff_forall_mem]at *;obtain⟨_,_,⟨b,nq,c,eq,_⟩,_⟩:=h.q;intro u hu;simp only[prC,List.mem_toArray,List.mem_append,List.mem_cons,List.not_mem_nil,or_false]at hu
 rcases hu with (rfl | rfl) | hu | rfl | hu | hu | rfl | rfl | rfl
 ·rfl
 ·rfl
 ·exact a u (by simpa using hu)
 ·exact h.set.one
 ·exact z5S (h.lk 0 (by omega)) u hu
 ·exact z5S (h.lk 1 (by omega)) u hu
 ·rfl
 ·rfl
 ·rw[eq];rfl
structure PCp(B:Nat)(w:World)(p:Pr)(v:PrV):Prop where
 pin:PIn (fun b=>B<=b) w p v
 ws:w.ownsRow B 127 8 v.ws p.s.W.length (wsL p.s.W)
 q:∃ z,z8s B w v.q p.q z
 oth:Rep (fun b=>B<=b/\some b≠v.q.ownBlock) w v.ws 8 64 (wsL p.s.W)/\Rep (fun b=>B<=b/\some b≠v.q.ownBlock) w v.set 2 16 (pwC p.set)/\∀ c,c<2->z5Z (fun b=>B<=b/\some b≠v.q.ownBlock) w (p.L c) (v.l c)
theorem q9C{f:Func}{b:Tmp}(a:f.results=#[.cell b 47]){wq:World}{g:Nat}{c cs:Array Value}(R:CAt 47 wq g c)(e:c.size=97)(d:cs.size=97)(Q:Ending->World->Prop)(h:Q (.returned (J4 cs)) (wq.setCells g 0 cs.toList))(act:Act)
  (i:act.tmps.getD b undef=J2 (some ⟨g,0,none⟩)) (hd:act.defers=[]):bodyPost prog f Q Exit.ret act (wq.setCells g 0 cs.toList):=by
 have j:=R.z0C (ds:=cs) (by rw[e,d])
 exact bodyPost_ret (v:=J4 cs) (results_cell_row a _ _ _ _ _ _ _ i j underlying47 rfl (by rw[z4g,d])) hd h
theorem take_one{α:Type}{l:List α}{k:Nat}{x:α}(h:l[k]?=some x):l.take k ++ [x]=l.take (k+1):=by
 have a:=(List.getElem?_eq_some_iff.1 h).1;rw[List.take_succ_eq_append_getElem a]
 congr 2
 exact ((List.getElem?_eq_some_iff.1 h).2).symm
theorem CpS.all{w:World}{p:Pr}{v0 v:PrV}{w9 wl:World}(h:CpS w p v0 2 v w9)(g:Bl w9 wl){lv:Value}{z:List (Value×Value)}(hq:z8s w9.heap.size wl lv p.q z)(hl:p.q.length * 88<=140737488351232)(r:p.s.W.length * 64<=140737488351232) :
  PCp (w.heap.size+2) ((wl.setCell ⟨w.heap.size,96,none⟩ lv).setCells (w.heap.size+1) 0 (prC p { v with q:=lv }).toList) p { v with q:=lv }:=by
 have f:=h.lt;have j:=fun (b:Nat) (g:w.heap.size+2<=b)=>(z0f (show b≠w.heap.size+1 by omega) (prC p { v with q:=lv }).toList 0 (wl.setCell ⟨w.heap.size,96,none⟩ lv)).trans (Below.heap_setCell wl ⟨w.heap.size,96,none⟩ lv b (by show b≠w.heap.size;omega))
 have l:z8s (w.heap.size+2) ((wl.setCell ⟨w.heap.size,96,none⟩ lv).setCells (w.heap.size+1) 0 (prC p { v with q:=lv }).toList) lv p.q z:=by
  refine⟨hq.len,Ln.z0U (Ln.z0n hq.own fun b a=>j b (by have:=(World.ownsRow.lt hq.own b a).1;omega)) f,fun i x y A B=>?_⟩
  have key:∀ {u:Value} {s t:Nat} {cs:List Value},Rep (fun b=>w9.heap.size<=b/\some b≠lv.ownBlock) wl u s t cs->Rep (fun b=>w.heap.size+2<=b/\some b≠lv.ownBlock) _ u s t cs:=fun n=>(n.mono (P':=fun b=>w.heap.size+2<=b/\some b≠lv.ownBlock) fun b _ a=>⟨Nat.le_trans f a.1,a.2⟩).keep fun b a _=>j b a.1;exact⟨key (hq.ins i x y A B).1,key (hq.ins i x y A B).2⟩
 have m:=Ln.z0n (Ln.z2j h.ws g) fun b a=>j b (World.ownsRow.lt h.ws b a).1;have o:∀ b,b<w9.heap.size->some b≠lv.ownBlock:=fun b g e=>by have:=(World.ownsRow.lt hq.own b e.symm).1;omega
 have d:∀ {u:Value} {s t:Nat} {cs:List Value},Rep (fun b=>w.heap.size+2<=b) w9 u s t cs->Rep (fun b=>w.heap.size+2<=b/\some b≠lv.ownBlock) ((wl.setCell ⟨w.heap.size,96,none⟩ lv).setCells (w.heap.size+1) 0 (prC p { v with q:=lv }).toList) u s t cs:=fun n=>((n.mono (P':=fun b=>w.heap.size+2<=b/\some b≠lv.ownBlock) fun b f a=>⟨a,o b f⟩).over g).keep fun b a _=>j b a.1
 refine⟨⟨Rep.own m r,(h.set.over g).keep fun b a _=>j b a,fun c k=>((h.lk c k).keep fun b _ f=>g.block b f).keep fun b a _=>j b a,l.rep hl⟩,m,⟨z,l⟩,d (Rep.own h.ws r),d h.set,fun c k=>⟨d (h.lk c k).told,d (h.lk c k).done,(h.lk c k).said.map fun _ h=>d h,(h.lk c k).due.map fun _ h=>d h⟩⟩
theorem z8a(p:Pr)(v:PrV)(P:Nat->Prop)(w:World)(hp:PIn P w p v)(F:p.q.length * 88<=140737488351232) :
  Calls prog 16 #[J4 (prC p v)] w fun e w'=>∃ v',e=.returned (J4 (prC p v'))/\PCp (w.heap.size+2) w' p v'/\Bl w w':=by
 have b7:=J6 F;clear F;obtain⟨i0,hi,b9,c4,c5⟩:=info_parts q4H;obtain⟨vw,vs,vl,vq⟩:=v;obtain⟨Aw,Cw,bw,ow,rfl,Ws,-,-⟩:=hp.ws.z8v;obtain⟨G,N,rfl,sS,nS,-,cS⟩:=hp.set.open (z0r _) (by decide)
 obtain⟨cs,Q⟩:∃ cs,prC p ⟨J1 Aw p.s.W.length Cw,J1 G p.set.length N,vl,vq⟩=cs:=⟨_,rfl⟩;rw[Q];have c6:=J6 Q;clear Q
 go_enter func16,ntmps16
 go_upto_region 1 with fail
 have C1:CAt 47 ((w.alloc (J5 cs 47)).alloc (J5 zeroCells47 47)) w.heap.size (prC p ⟨J1 Aw p.s.W.length Cw,J1 G p.set.length N,vl,vq⟩):=by rw[c6.out];exact (CAt.new _ w cs).alloc _
 have R1:=CAt.new2 47 w (J5 cs 47) zeroCells47;have V:Bl w ((w.alloc (J5 cs 47)).alloc (J5 zeroCells47 47)):=(znw w _).alloc (by simp) _
 have H:w.heap.size+2<=((w.alloc (J5 cs 47)).alloc (J5 zeroCells47 47)).heap.size:=by simp
 generalize (w.alloc (J5 cs 47)).alloc (J5 zeroCells47 47)=w1 at *;apply wp_region_lit
 iterate 3 go_step
 refine wpList_load_mid rfl 32 _ rfl w.heap.size 2 rfl _ _ (z9N C1) underlying32 rfl (by rw[z0l];rfl) ?_
 go_step
 go_step
 refine (z3u p.s Aw bw ow Cw w1 (Ws.over V)).mono ?_;rintro e w2⟨A2,C2,rfl,c7,f⟩;dsimp only;have X:=C1.over f;have R2:=R1.over f;have B2:=zbt V f;have c8:=Nat.le_trans H f.size
 iterate 4 go_step
 refine wpList_store_mid rfl 32 _ _ rfl w.heap.size 2 (stC p.s (J1 A2 p.s.W.length C2)) rfl rfl (X.there 2 _ (by rw[z0c,z0d];omega)) (by rw[z0l];rfl) (z0q _ _ _ _) ?_
 have C3:=CAt.sets (stC p.s (J1 A2 p.s.W.length C2)).toList 2 _ _ X;rw[j0j]at C3;have R3:=R2.others (c:=w.heap.size) (o:=2) (by omega) (stC p.s (J1 A2 p.s.W.length C2)).toList
 have B3:=z0b (Nat.le_refl _) (stC p.s (J1 A2 p.s.W.length C2)).toList 2 _ B2;have Y:=c7.to (w':=w2.setCells w.heap.size 2 (stC p.s (J1 A2 p.s.W.length C2)).toList) fun k h1 _=>z0f (by omega) _ _ _
 have c9:w.heap.size+2<=(w2.setCells w.heap.size 2 (stC p.s (J1 A2 p.s.W.length C2)).toList).heap.size:=by have:=R3.lt;omega
 clear C1 R1 V f X R2 B2 c7 c6 Ws;generalize w2.setCells w.heap.size 2 (stC p.s (J1 A2 p.s.W.length C2)).toList=w3 at *;go_simp
 go_upto_region 2 with fail
 have f4:w3.cell? ⟨w.heap.size,65,none⟩=some (J1 G p.set.length N):=C3.cell 65;have q8F:=z8L p.set;have d0:=z0r p.set;have bS:0+p.set.length<=maxLen:=by unfold maxLen;omega
 have d1:∀ ad,G=some ad->∀ j u,(pwC p.set)[j]?=some u->w3.cell? (ad.add j)=some u:=((hp.set.over B3).open (z0r _) (by decide)).elim fun _ h=>h.elim fun _ h=>by obtain⟨e,-,-,-,h⟩:=h;cases e;exact h
 apply wp_region_lit
 iterate 6 go_step
 refine q1U rfl _ _ 33 rfl w3.heap.size 74 i0 _ 2 16 underlying33 hi b9 c4 c5 rfl (by decide) (J1 none 0 0) 0 [] rfl (World.ownsRow_nil _ _ _ _) G p.set.length N (pwC p.set) rfl d0 nS d1 q8F bS (by omega) (Nat.le_refl _) ?_
 intro Z C4 w4 a0 d2;rw[Nat.zero_add,List.nil_append]at a0;have b4:Bl w3 w4:=(Below.refl _ w3).grown d2 (Nat.le_refl _) (fun k hk=>by cases hk)
 have d3:Rep (fun b=>w3.heap.size<=b) w4 (J1 Z p.set.length C4) 2 16 (pwC p.set):=Rep.own a0 sS;have t:=C3.over b4;have f5:w4.frozen? ⟨w.heap.size,65,none⟩=false:=t.free 65;have f6:w4.cell? ⟨w.heap.size,65,none⟩=some (J1 G p.set.length N):=t.cell 65;rw[Nat.zero_add]
 have S5:CpS w p ⟨J1 Aw p.s.W.length Cw,J1 G p.set.length N,vl,vq⟩ 0 ⟨J1 A2 p.s.W.length C2,J1 Z p.set.length C4,vl,vq⟩ (w4.setCell ⟨w.heap.size,65,none⟩ (J1 Z p.set.length C4)):=by
  have a1:=fun (b:Nat) (hb:b≠w.heap.size)=>Below.heap_setCell w4 ⟨w.heap.size,65,none⟩ (J1 Z p.set.length C4) b hb;refine⟨?_,(R3.over b4).keep (a1 _ (by omega)),(zbt B3 b4).setCell (Nat.le_refl _) _,?_,?_,fun c r=>absurd r (by omega),fun _ _=>rfl,rfl⟩
  ·have:=t.set 65 (J1 Z p.set.length C4)
   rwa [q4l]at this
  ·exact Ln.z0n (Ln.z0U (Ln.z2j Y b4) (by omega)) fun b hb=>a1 b (by have:=(World.ownsRow.lt Y b hb).1;omega)
  ·exact (d3.mono (P':=fun b=>w.heap.size+2<=b) fun b _ hb=>by have:w3.heap.size<=b:=hb;omega).keep fun b hb _=>a1 b (by have:w.heap.size+2<=b:=hb;omega)
 clear a0 d2 d3 t C3 R3 B3 Y b4 d1 cS c9 f4
 go_upto_region 3 with fail
 generalize w4.setCell ⟨w.heap.size,65,none⟩ (J1 Z p.set.length C4)=w5 at *;have f7:=J6 S5;have HP:=J6 hp;generalize d4:(⟨J1 Aw p.s.W.length Cw,J1 G p.set.length N,vl,vq⟩:PrV)=v0 at *;generalize (⟨J1 A2 p.s.W.length C2,J1 Z p.set.length C4,vl,vq⟩:PrV)=v5 at *;have g9:=J6 d4;clear S5 hp d4 f5 f6 q8F d0 bS sS nS H c8 hi b9 c4 c5
 go_upto_region 4 with fail
 go_loopw [16] (fun i wl=>∃ (k:Nat) (v:PrV),k<=2/\i=.int .i64 (k:Int)/\Hid (CpS w p v0 k v wl)) (fun i _=>(2 - intOf i).toNat)
 case atStart=>exact⟨0,v5,by omega,rfl,f7⟩
 case round =>
  obtain⟨k,v,hk,rfl,a⟩:=hrel
  by_cases a2:k<2
  ·have h5:(k:Int)<2:=by omega
   have f8:(0:Int)<=(k:Int):=by omega
   go_upto_region 7 with fail
   have a3:=(HP.out.lk k a2).keep (w':=wr) fun b _ A=>a.out.B.block b A;rw[<- a.out.hl k (Nat.le_refl _)]at a3;have d5:w.heap.size<wr.heap.size:=a.out.C.lt;have cf:∀ j,j<14->wr.cell? ⟨w.heap.size,66+k * 14+j,none⟩=(lkL (p.L k) (v.l k))[j]?:=fun j hj=>(a.out.C.cell _).trans (z2E k a2 j hj);refine q9J w.heap.size (66+k * 14) (p.L k) (v.l k) P wr a3 d5 (cf 3 (by omega)) (cf 5 (by omega)) (cf 6 (by omega)) (cf 7 (by omega)) (cf 8 (by omega)) (cf 9 (by omega)) (fun j _=>a.out.C.free _) _ _ _ _ _ _ _ _ _ _ _ _ _ _ _ _ _ _ _ _ _ _ _ _ _ _ _ _ _ _ _ _ _ _ _ _ _ _ _ _ _ _ _ _ _ _ _ _ _ _ _ _ _ _ _ _ _ _ _ _ _ _ _ _ _ _ _ ?_
   intro T D S U h6 h7 h8 h9 i1 i2 i3 i4 i5 i6 i7 i8 i9 j0 j1 j2 j3 j4 j5 j6 j7 j8 j9 k0 w6 m h4;have HN:=J6 (a.out.next a2 m h4)
   clear cf a3 d5 m h4 a;generalize (((((w6.setCell ⟨w.heap.size,66+k * 14+3,none⟩ T).setCell ⟨w.heap.size,66+k * 14+5,none⟩ D).setCell ⟨w.heap.size,66+k * 14+6,none⟩ S).setCell ⟨w.heap.size,66+k * 14+7,none⟩ U).setCell ⟨w.heap.size,66+k * 14+8,none⟩ (.int .i64 (p.L k).out.g)).setCell ⟨w.heap.size,66+k * 14+9,none⟩ (J3 (p.L k).out.cl)=w7 at *;go_wp2
   first | exact⟨⟨k+1,_,by omega,by go_num,HN⟩,by simp[intOf];omega⟩ | ((repeat apply Exists.intro);exact⟨⟨k+1,_,by omega,by go_num,HN⟩,rfl⟩)
  ·obtain rfl:k=2:=by omega
   go_upto_region 10 with fail
   have K:p.s.W.length * 64<=140737488351232:=by obtain⟨_,_,_,_,_,W,_⟩:=HP.out.ws.z8v;exact W.len
   obtain⟨z,a4,d6,d7⟩:=HP.out.q;obtain⟨Aq,Cq,eq,sq,nq,cq,-⟩:=d6.open (z1h _ _ a4) (by decide)
   have f9:wr.cell? ⟨w.heap.size,96,none⟩=some (J1 Aq p.q.length Cq):=by
    rw[a.out.C.cell 96,<- eq,<- a.out.hq];rfl
   have g0:=J6 d7;have g1:=J6 cq;have g2:=J6 a4;clear d7 cq d6 nq a4
   go_upto_region 11 with fail
   clear f9;have a5:Hid (p.q.length * 88<=140737488351232/\p.s.W.length * 64<=140737488351232):=⟨b7.out,K⟩;have g8:p.q.length<=1800000000000:=by omega
   clear sq K
   rename World=>w9
   go_loopw [5,50] (fun lv i wl=>∃ (k:Nat) (z:List (Value×Value)),k<=p.q.length/\i=.int .i64 (k:Int)/\Hid (z8s w9.heap.size wl lv (p.q.take k) z)/\Hid (Bl w9 wl)) (fun _ i _=>p.q.length - (intOf i).toNat)
   case atStart=>exact⟨0,[],Nat.zero_le _,rfl,z8s.nil _ _,Below.refl _ _⟩
   case round =>
    obtain⟨k,zk,hk,rfl,HQ,E⟩:=hrel
    by_cases A:k<p.q.length
    ·have k1:(k:Int)<(p.q.length:Int):=by omega
     have f8:(0:Int)<=(k:Int):=by omega
     obtain⟨x,hx⟩:∃ x,p.q[k]?=some x:=⟨_,List.getElem?_eq_getElem A⟩;obtain⟨y,hy⟩:∃ y,z[k]?=some y:=⟨_,List.getElem?_eq_getElem (by rw[g2.out];exact A)⟩
     have a6:=g0.out k x y hx hy;obtain⟨y1,y2⟩:=y;obtain⟨⟨V,n1,D1,d8,-⟩,⟨B2,n2,D2,d9,-⟩⟩:=id a6;dsimp only at d8 d9;subst d8 d9;have d:Bl w wr:=a.out.B.trans (E.out.mono (by have:=a.out.lt;omega))
     obtain⟨bq,oq,rfl,-,g3,hcell⟩:=g1.out (by omega)
     have r:∀ j,j<7->∀ u,(akL x (J1 V n1 D1,J1 B2 n2 D2))[j]?=some u->wr.cell? ⟨bq,oq+k * 7+j,none⟩=some u:=fun j hj u hu=>by
      rw[d.cell (p:=⟨bq,oq+k * 7+j,none⟩) g3,Nat.add_assoc];exact hcell _ _ ((z2W p.q z k x _ j hx hy hj).trans hu)
     have e0:=r 0 (by omega) _ rfl
     have e1:=r 1 (by omega) _ rfl
     have e2:=r 2 (by omega) _ rfl
     have e3:=r 3 (by omega) _ rfl
     have e4:=r 4 (by omega) _ rfl
     have e5:=r 5 (by omega) _ rfl
     have e6:=r 6 (by omega) _ rfl
     rw[Nat.add_zero]at e0;have HX:=J6 (show _/\_ from⟨hx,a6⟩);have a7:=J6 d;clear r hcell a6 hx hy d
     go_upto_region 13 with fail
     have b1:Bl wr (wr.alloc (J5 #[.int .i64 x.1,.int .i64 x.2.k,.int .i64 x.2.i,.int .i64 x.2.v,.int .i64 x.2.n,J1 V n1 D1,J1 B2 n2 D2] 79)):=znw wr _;have a8:w9.heap.size<=wr.heap.size:=E.out.size;refine q8r w9.heap.size wr.heap.size u5 (p.q.take k) zk x (J1 V n1 D1,J1 B2 n2 D2) P _ (HQ.out.over b1) (Nat.le_trans a8 b1.size) (by rw[List.length_take,Nat.min_eq_left hk];have:=a5.out.1;omega) ⟨(HX.out.2.1.over a7.out).over b1,(HX.out.2.2.over a7.out).over b1⟩ (CAt.new _ _ _) _ _ _ _ _ _ _ _ _ _ _ _ _ _ _ _ _ _ _ _ _ _ _ _ _ _ _ _ _ _ _ _ _ _ _ _ _ _ _ _ _ _ _ _ _ _ _ _ _ _ _ _ _ _ _ _ _ _ _ _ _ _ _ _ _ _ ?_
     intro k2 z' k3 k4 k5 k6 k7 k8 k9 l4 l5 w6 m a9;rw[take_one HX.out.1]at a9;have e7:=J6 a9;have e8:=J6 (E.out.trans ((b1.mono a8).trans m));clear a9 m b1 HQ E HX a7 e0 e1 e2 e3 e4 e5 e6 a8;go_wp2
     first | exact⟨⟨k+1,z',by omega,by go_num,e7,e8⟩,by simp[intOf];omega⟩ | ((repeat apply Exists.intro);exact⟨⟨k+1,z',by omega,by go_num,e7,e8⟩,rfl⟩)
    ·obtain rfl:k=p.q.length:=by omega
     have d:Bl w wr:=a.out.B.trans (E.out.mono (by have:=a.out.lt;omega))
     have C9:=a.out.C.later E.out a.out.C.lt;have R9:=a.out.R.later E.out a.out.R.lt;rw[List.take_length]at HQ;have HA:=J6 (a.out.all E.out HQ.out a5.out.1 a5.out.2);have g5:wr.cell? ⟨w.heap.size,96,none⟩=some v.q:=C9.cell 96;have g6:wr.frozen? ⟨w.heap.size,96,none⟩=false:=C9.free 96;obtain⟨Al,Cl,el⟩:=Ln.z2B HQ.out.own;subst el
     go_upto_region 16 with fail
     have b5:=C9.set 96 (J1 Al p.q.length Cl);rw[j0Q]at b5;have b6:=R9.other (c:=w.heap.size) (o:=96) (by omega) (J1 Al p.q.length Cl)
     have e9:=d.setCell (p:=⟨w.heap.size,96,none⟩) (Nat.le_refl _) (J1 Al p.q.length Cl);have M:(prC p { v with q:=J1 Al p.q.length Cl }).all (·.oneCell')=true:=z2y HA.out.pin
     apply wp_region_lit;refine wpList_load_mid rfl 47 _ rfl w.heap.size 0 rfl _ _ b5.range underlying47 rfl (by rw[z4g];rfl) ?_
     refine wpList_store_mid rfl 47 _ _ rfl (w.heap.size+1) 0 (prC p { v with q:=J1 Al p.q.length Cl }) rfl rfl (b6.there 0 _ (by rw[z0h,z0c];omega)) (by rw[z4g];rfl) M ?_
     have HZ:=J6 (show _/\_ from⟨b6,e9⟩);clear b5 b6 e9 C9 R9 g5 g6 E HQ a d M;go_wp2;exact q9C results16 HZ.out.1 z0h (z0c _ _) _ ⟨_,rfl,HA.out,z0b (Nat.le_succ _) _ _ _ HZ.out.2⟩ _ rfl rfl
end Pv
namespace Pv
open Go.RowKit
section
variable {P P':Nat->Prop} {w:World}
theorem q4r(s:St)(v a:Value)(h:Rep P w v 8 64 (wsL s.W))(c:Rep P' w a 8 64 (wsL s.W)):Calls prog 54 #[J4 (stC s v),J4 (stC s a)] w fun e w'=>e=.returned (J3 true)/\Bl w w':=by
 obtain⟨A,C,b,o,rfl,W,-,-⟩:=h.z8v;obtain⟨A',C',d,f,rfl,g,-,-⟩:=c.z8v;exact z7a s A A' b o d f C C' w W g
end
end Pv
namespace Pv
open Go.RowKit
def z9T(v:Value):Sem Value:=Instr.loadAt 41 v
theorem q2N(v:Value):Instr.loadAt 41 v=z9T v:=rfl
theorem z6C:(prog.info? 41).map (·.size)=some 14:=by kernel_rfl
theorem z6S{w:World}{b:Nat}{p:Pr}{v:PrV}(h:CAt 47 w b (prC p v))(k:Nat)(c:k<2):w.rangeAt b (66+k * 14) (lkL (p.L k) (v.l k)):=h.part fun j x a=>by
 have d:j<14:=(List.getElem?_eq_some_iff.1 a).1;rw[z2E k c j d];exact a
theorem z7Q{w:World}{b:Nat}{p:Pr}{v:PrV}(h:CAt 47 w b (prC p v))(k:Nat)(a:k<2):(z9T (J2 (some ⟨b,66+k * 14,none⟩))).run prog w=.ok (J4 (lkL (p.L k) (v.l k)).toArray) w:=
 run_loadAt_mid (P:=prog) w b (66+k * 14) 41 _ _ (z6S h k a) underlying41 rfl (by rw[z6C];rfl)
theorem z1f{w:World}{b:Nat}{p:Pr}{v:PrV}(h:CAt 47 w b (prC p v)):(z7R (J2 (some ⟨b,2,none⟩))).run prog w=.ok (J4 (stC p.s v.ws)) w:=by
 have:=run_loadAt_mid (P:=prog) w b 2 32 _ _ (z9N h) underlying32 rfl (by rw[z0l];rfl)
 change (Instr.loadAt 32 _).run prog w=_
 simpa using this
noncomputable def j1F:Code:=z8O [1,1,0,1,9,9,1,1,0,9,1,0] (f19.body.getD .skip)
noncomputable def j0N:Code:=z8O [1,1,1,0,1,9,9,1,1,0,9,1,0] (f19.body.getD .skip)
attribute [local go_sem ↓] q2N
set_option maxRecDepth 1000000 in
theorem q9R(g g' k:Nat)(hk:k<2)(p:Pr)(v d:PrV)(wl:World)(h:CAt 47 wl g (prC p v))(h':CAt 47 wl g' (prC p d))(v0 v1 v4 v6 v7 v8 v9 e1 e2 e3 e4 e5 e6 e7 e8 e9 f4 f5 f6 f7 f8 f9 g0 g1 g2 g3 g5 g6 g8 g9 h4 h5 h6 h7 h8 h9 i0 i1 i2 i3 i4 i5 i6 i7 i8 i9 j0 j1 j2 j3 j4 j5 j6 n7 n8 n9 o0 o3 o4 o5 o6 j7 j8 j9 k0 k1 k2 k3 k4 k5 k6 k7 k8 k9 l4 l5 l6 l7 l8 l9 m0 m1 m2 m3 m4 m5 m6 m7 m8 m9 n0 n1 n2 n3 n4 n5 n6 q r s t w x y z A B C D E F G H M N P R T U V W X Y a0 a1 a2 a3 a4 a5 a6 a7 a8 a9 b4 b5 b6 b7 b9 c4 c5 c6 c7 c8 c9 d0 d1 d2 d3 d4 d5 d6 d7 d8 d9 e0:Value)(Q:Exit->Act->World->Prop)
  (m:(∀ u∈lkL (p.L k) (v.l k),u.oneCell'=true)/\∀ u∈lkL (p.L k) (d.l k),u.oneCell'=true)
  (hQ:∀ (x6 x7:Nat) (o7 o8 o9 p7 p8 p9 q4 q5:Value) (w5:World),Bl wl w5->CAt 41 w5 x6 (lkL (p.L k) (v.l k)).toArray->CAt 41 w5 x7 (lkL (p.L k) (d.l k)).toArray->Q .normal ⟨List.toArray (v0 :: v1 :: (J2 (some ⟨g,0,none⟩)) :: (J2 (some ⟨g',0,none⟩)) :: v4 :: (J I (k:Int)) :: (J2 (some ⟨x6,0,none⟩)) :: (J2 (some ⟨x7,0,none⟩)) :: v8 :: v9 :: e1 :: e2 :: e3 :: e4 :: e5 :: e6 :: e7 :: e8 :: e9 :: f4 :: f5 :: f6 :: f7 :: f8 :: f9 :: g0 :: g1 :: g2 :: g3 :: g5 :: g6 :: g8 :: g9 :: h4 :: h5 :: h6 :: h7 :: h8 :: h9 :: i0 :: i1 :: i2 :: i3 :: i4 :: i5 :: i6 :: i7 :: i8 :: i9 :: j0 :: j1 :: j2 :: j3 :: j4 :: j5 :: j6 :: (o7) :: (o8) :: (o9) :: (p7) :: (p8) :: (p9) :: (q4) :: (q5) :: j7 :: j8 :: j9 :: k0 :: k1 :: k2 :: k3 :: k4 :: k5 :: k6 :: k7 :: k8 :: k9 :: l4 :: l5 :: l6 :: l7 :: l8 :: l9 :: m0 :: m1 :: m2 :: m3 :: m4 :: m5 :: m6 :: m7 :: m8 :: m9 :: n0 :: n1 :: n2 :: n3 :: n4 :: n5 :: n6 :: q :: r :: s :: t :: w :: x :: y :: z :: A :: B :: C :: D :: E :: F :: G :: H :: M :: N :: P :: R :: T :: U :: V :: W :: X :: Y :: a0 :: a1 :: a2 :: a3 :: a4 :: a5 :: a6 :: a7 :: a8 :: a9 :: b4 :: b5 :: b6 :: b7 :: b9 :: c4 :: c5 :: c6 :: c7 :: c8 :: c9 :: d0 :: d1 :: d2 :: d3 :: d4 :: d5 :: d6 :: d7 :: d8 :: d9 :: e0 :: []),[]⟩ w5) :
  Code.wp prog j1F Q ⟨List.toArray (v0 :: v1 :: (J2 (some ⟨g,0,none⟩)) :: (J2 (some ⟨g',0,none⟩)) :: v4 :: (J I (k:Int)) :: v6 :: v7 :: v8 :: v9 :: e1 :: e2 :: e3 :: e4 :: e5 :: e6 :: e7 :: e8 :: e9 :: f4 :: f5 :: f6 :: f7 :: f8 :: f9 :: g0 :: g1 :: g2 :: g3 :: g5 :: g6 :: g8 :: g9 :: h4 :: h5 :: h6 :: h7 :: h8 :: h9 :: i0 :: i1 :: i2 :: i3 :: i4 :: i5 :: i6 :: i7 :: i8 :: i9 :: j0 :: j1 :: j2 :: j3 :: j4 :: j5 :: j6 :: n7 :: n8 :: n9 :: o0 :: o3 :: o4 :: o5 :: o6 :: j7 :: j8 :: j9 :: k0 :: k1 :: k2 :: k3 :: k4 :: k5 :: k6 :: k7 :: k8 :: k9 :: l4 :: l5 :: l6 :: l7 :: l8 :: l9 :: m0 :: m1 :: m2 :: m3 :: m4 :: m5 :: m6 :: m7 :: m8 :: m9 :: n0 :: n1 :: n2 :: n3 :: n4 :: n5 :: n6 :: q :: r :: s :: t :: w :: x :: y :: z :: A :: B :: C :: D :: E :: F :: G :: H :: M :: N :: P :: R :: T :: U :: V :: W :: X :: Y :: a0 :: a1 :: a2 :: a3 :: a4 :: a5 :: a6 :: a7 :: a8 :: a9 :: b4 :: b5 :: b6 :: b7 :: b9 :: c4 :: c5 :: c6 :: c7 :: c8 :: c9 :: d0 :: d1 :: d2 :: d3 :: d4 :: d5 :: d6 :: d7 :: d8 :: d9 :: e0 :: []),[]⟩ wl:=by
 have HK:=J6 hQ;have hF:∀ wx,Bl wl wx->(z9T (J2 (some ⟨g,66+k * 14,none⟩))).run prog wx=.ok (J4 (lkL (p.L k) (v.l k)).toArray) wx/\(z9T (J2 (some ⟨g',66+k * 14,none⟩))).run prog wx=.ok (J4 (lkL (p.L k) (d.l k)).toArray) wx:=fun wx e=>⟨z7Q (h.over e) k hk,z7Q (h'.over e) k hk⟩;have q6:(k:Int)<2:=by omega
 have q7:(0:Int)<=(k:Int):=by omega
 clear hQ h h'
 conv=>arg 2;whnf
 refine wp_region_noPanic ?_;have e:Bl wl wl.drew:=(Below.refl _ wl).drew;refine wp_region_held (S:=fun wx=>Bl wl wx) (by kernel_rfl) ?_
 change wpAnyH _ _ _ _ _ _ _ _ wl.drew;refine O.Z 0 (J I (k:Int)) 56 rfl rfl e ?_ ?_
 ·intro wx a;go_simp
 simp only[O.pp,O.pb,O.pc];refine O.Z 1 (J2 (some ⟨g,66,none⟩)) 57 rfl rfl e ?_ ?_
 ·intro wx a;go_simp
 simp only[O.pp,O.pb,O.pc];refine O.Z 2 (J2 (some ⟨g,66+k * 14,none⟩)) 58 rfl rfl e ?_ ?_
 ·intro wx a;go_simp
 simp only[O.pp,O.pb,O.pc];refine O.Z 3 (J4 (lkL (p.L k) (v.l k)).toArray) 59 rfl rfl e ?_ ?_
 ·intro wx a;obtain⟨l1,l2⟩:=hF wx a;go_simp
 simp only[O.pp,O.pb,O.pc];refine O.Z 4 (J I (k:Int)) 60 rfl rfl e ?_ ?_
 ·intro wx a;go_simp
 simp only[O.pp,O.pb,O.pc];refine O.Z 5 (J2 (some ⟨g',66,none⟩)) 61 rfl rfl e ?_ ?_
 ·intro wx a;go_simp
 simp only[O.pp,O.pb,O.pc];refine O.Z 6 (J2 (some ⟨g',66+k * 14,none⟩)) 62 rfl rfl e ?_ ?_
 ·intro wx a;go_simp
 simp only[O.pp,O.pb,O.pc];refine O.Z 7 (J4 (lkL (p.L k) (d.l k)).toArray) 63 rfl rfl e ?_ ?_
 ·intro wx a;obtain⟨l1,l2⟩:=hF wx a;go_simp
 simp only[O.pp,O.pb,O.pc];refine O.z9R (i:=8) (j:=9) (by kernel_rfl) rfl rfl rfl rfl (fun K n=>?_) (fun K n=>?_)
 ·go_simp;refine n _ _ (e.alloc (Nat.le_refl _) _) ?_;clear n K;refine O.z1p (i:=9) (by kernel_rfl) rfl rfl (fun K n=>?_)
  go_simp;refine n _ _ ((e.alloc (Nat.le_refl _) _).alloc (by simp) _) ?_
  clear n K;have C0:CAt 41 ((wl.alloc (J5 #[J3 false,J3 false,J I 0,J1 none 0 0,J3 false,J1 none 0 0,J1 none 0 0,J1 none 0 0,J I 0,J3 false,J I 0,J I 0,J I 0,J I 0] 41)).alloc (J5 #[J3 false,J3 false,J I 0,J1 none 0 0,J3 false,J1 none 0 0,J1 none 0 0,J1 none 0 0,J I 0,J3 false,J I 0,J I 0,J I 0,J I 0] 41)).drew wl.heap.size #[J3 false,J3 false,J I 0,J1 none 0 0,J3 false,J1 none 0 0,J1 none 0 0,J1 none 0 0,J I 0,J3 false,J I 0,J I 0,J I 0,J I 0]:=(CAt.new 41 wl #[J3 false,J3 false,J I 0,J1 none 0 0,J3 false,J1 none 0 0,J1 none 0 0,J1 none 0 0,J I 0,J3 false,J I 0,J I 0,J I 0,J I 0]).alloc _;have C1:CAt 41 ((wl.alloc (J5 #[J3 false,J3 false,J I 0,J1 none 0 0,J3 false,J1 none 0 0,J1 none 0 0,J1 none 0 0,J I 0,J3 false,J I 0,J I 0,J I 0,J I 0] 41)).alloc (J5 #[J3 false,J3 false,J I 0,J1 none 0 0,J3 false,J1 none 0 0,J1 none 0 0,J1 none 0 0,J I 0,J3 false,J I 0,J I 0,J I 0,J I 0] 41)).drew (wl.heap.size+1) #[J3 false,J3 false,J I 0,J1 none 0 0,J3 false,J1 none 0 0,J1 none 0 0,J1 none 0 0,J I 0,J3 false,J I 0,J I 0,J I 0,J I 0]:=CAt.new2 41 wl (J5 #[J3 false,J3 false,J I 0,J1 none 0 0,J3 false,J1 none 0 0,J1 none 0 0,J1 none 0 0,J I 0,J3 false,J I 0,J I 0,J I 0,J I 0] 41) #[J3 false,J3 false,J I 0,J1 none 0 0,J3 false,J1 none 0 0,J1 none 0 0,J1 none 0 0,J I 0,J3 false,J I 0,J I 0,J I 0,J I 0];have f:Bl wl ((wl.alloc (J5 #[J3 false,J3 false,J I 0,J1 none 0 0,J3 false,J1 none 0 0,J1 none 0 0,J1 none 0 0,J I 0,J3 false,J I 0,J I 0,J I 0,J I 0] 41)).alloc (J5 #[J3 false,J3 false,J I 0,J1 none 0 0,J3 false,J1 none 0 0,J1 none 0 0,J1 none 0 0,J I 0,J3 false,J I 0,J I 0,J I 0,J I 0] 41)).drew:=((znw wl _).alloc (by simp) _).drew
  generalize ((wl.alloc (J5 #[J3 false,J3 false,J I 0,J1 none 0 0,J3 false,J1 none 0 0,J1 none 0 0,J1 none 0 0,J I 0,J3 false,J I 0,J I 0,J I 0,J I 0] 41)).alloc (J5 #[J3 false,J3 false,J I 0,J1 none 0 0,J3 false,J1 none 0 0,J1 none 0 0,J1 none 0 0,J I 0,J3 false,J I 0,J I 0,J I 0,J I 0] 41)).drew=w2 at *;have o1:((lkL (p.L k) (v.l k)).toArray).all (·.oneCell')=true:=by rw[Array.all_eq_true_iff_forall_mem];exact fun u hu=>m.1 u (by simpa using hu)
  have o2:((lkL (p.L k) (d.l k)).toArray).all (·.oneCell')=true:=by rw[Array.all_eq_true_iff_forall_mem];exact fun u hu=>m.2 u (by simpa using hu)
  refine O.z3z (i:=10) (by kernel_rfl) rfl rfl 41 _ _ rfl rfl (wl.heap.size+0) 0 (lkL (p.L k) (v.l k)).toArray rfl rfl (C0.there 0 _ (by show 0+14<=14;omega)) (by rw[z6C];rfl) o1 (z0b (b:=wl.heap.size+0) (by omega) _ 0 _ f) ?_
  refine O.z3z (i:=11) (by kernel_rfl) rfl rfl 41 _ _ rfl rfl (wl.heap.size+1) 0 (lkL (p.L k) (d.l k)).toArray rfl rfl ((C1.others (c:=wl.heap.size+0) (o:=0) (by omega) _).there 0 _ (by show 0+14<=14;omega)) (by rw[z6C];rfl) o2 (z0b (b:=wl.heap.size+1) (by omega) _ 0 _ (z0b (b:=wl.heap.size+0) (by omega) _ 0 _ f)) ?_
  have D6:=(CAt.z0C (ds:=(lkL (p.L k) (v.l k)).toArray) C0 rfl).others (c:=wl.heap.size+1) (o:=0) (by omega) ((lkL (p.L k) (d.l k)).toArray).toList
  have D7:=CAt.z0C (ds:=(lkL (p.L k) (d.l k)).toArray) (C1.others (c:=wl.heap.size+0) (o:=0) (by omega) ((lkL (p.L k) (v.l k)).toArray).toList) rfl
  have DB:=z0b (b:=wl.heap.size+1) (by omega) ((lkL (p.L k) (d.l k)).toArray).toList 0 _ (z0b (b:=wl.heap.size+0) (by omega) ((lkL (p.L k) (v.l k)).toArray).toList 0 _ f)
  refine wpAnyH_done (by kernel_rfl) ?_ _
  exact NoPanic.normal (HK.out (wl.heap.size+0) (wl.heap.size+1) _ _ _ _ _ _ _ _ _ DB D6 D7)
 ·go_simp;refine n _ _ (e.alloc (Nat.le_refl _) _) ?_;clear n K;refine O.z1p (i:=8) (by kernel_rfl) rfl rfl (fun K n=>?_)
  go_simp;refine n _ _ ((e.alloc (Nat.le_refl _) _).alloc (by simp) _) ?_
  clear n K;have C0:CAt 41 ((wl.alloc (J5 #[J3 false,J3 false,J I 0,J1 none 0 0,J3 false,J1 none 0 0,J1 none 0 0,J1 none 0 0,J I 0,J3 false,J I 0,J I 0,J I 0,J I 0] 41)).alloc (J5 #[J3 false,J3 false,J I 0,J1 none 0 0,J3 false,J1 none 0 0,J1 none 0 0,J1 none 0 0,J I 0,J3 false,J I 0,J I 0,J I 0,J I 0] 41)).drew wl.heap.size #[J3 false,J3 false,J I 0,J1 none 0 0,J3 false,J1 none 0 0,J1 none 0 0,J1 none 0 0,J I 0,J3 false,J I 0,J I 0,J I 0,J I 0]:=(CAt.new 41 wl #[J3 false,J3 false,J I 0,J1 none 0 0,J3 false,J1 none 0 0,J1 none 0 0,J1 none 0 0,J I 0,J3 false,J I 0,J I 0,J I 0,J I 0]).alloc _;have C1:CAt 41 ((wl.alloc (J5 #[J3 false,J3 false,J I 0,J1 none 0 0,J3 false,J1 none 0 0,J1 none 0 0,J1 none 0 0,J I 0,J3 false,J I 0,J I 0,J I 0,J I 0] 41)).alloc (J5 #[J3 false,J3 false,J I 0,J1 none 0 0,J3 false,J1 none 0 0,J1 none 0 0,J1 none 0 0,J I 0,J3 false,J I 0,J I 0,J I 0,J I 0] 41)).drew (wl.heap.size+1) #[J3 false,J3 false,J I 0,J1 none 0 0,J3 false,J1 none 0 0,J1 none 0 0,J1 none 0 0,J I 0,J3 false,J I 0,J I 0,J I 0,J I 0]:=CAt.new2 41 wl (J5 #[J3 false,J3 false,J I 0,J1 none 0 0,J3 false,J1 none 0 0,J1 none 0 0,J1 none 0 0,J I 0,J3 false,J I 0,J I 0,J I 0,J I 0] 41) #[J3 false,J3 false,J I 0,J1 none 0 0,J3 false,J1 none 0 0,J1 none 0 0,J1 none 0 0,J I 0,J3 false,J I 0,J I 0,J I 0,J I 0];have f:Bl wl ((wl.alloc (J5 #[J3 false,J3 false,J I 0,J1 none 0 0,J3 false,J1 none 0 0,J1 none 0 0,J1 none 0 0,J I 0,J3 false,J I 0,J I 0,J I 0,J I 0] 41)).alloc (J5 #[J3 false,J3 false,J I 0,J1 none 0 0,J3 false,J1 none 0 0,J1 none 0 0,J1 none 0 0,J I 0,J3 false,J I 0,J I 0,J I 0,J I 0] 41)).drew:=((znw wl _).alloc (by simp) _).drew
  generalize ((wl.alloc (J5 #[J3 false,J3 false,J I 0,J1 none 0 0,J3 false,J1 none 0 0,J1 none 0 0,J1 none 0 0,J I 0,J3 false,J I 0,J I 0,J I 0,J I 0] 41)).alloc (J5 #[J3 false,J3 false,J I 0,J1 none 0 0,J3 false,J1 none 0 0,J1 none 0 0,J1 none 0 0,J I 0,J3 false,J I 0,J I 0,J I 0,J I 0] 41)).drew=w2 at *;have o1:((lkL (p.L k) (v.l k)).toArray).all (·.oneCell')=true:=by rw[Array.all_eq_true_iff_forall_mem];exact fun u hu=>m.1 u (by simpa using hu)
  have o2:((lkL (p.L k) (d.l k)).toArray).all (·.oneCell')=true:=by rw[Array.all_eq_true_iff_forall_mem];exact fun u hu=>m.2 u (by simpa using hu)
  refine O.z3z (i:=10) (by kernel_rfl) rfl rfl 41 _ _ rfl rfl (wl.heap.size+1) 0 (lkL (p.L k) (v.l k)).toArray rfl rfl (C1.there 0 _ (by show 0+14<=14;omega)) (by rw[z6C];rfl) o1 (z0b (b:=wl.heap.size+1) (by omega) _ 0 _ f) ?_
  refine O.z3z (i:=11) (by kernel_rfl) rfl rfl 41 _ _ rfl rfl (wl.heap.size+0) 0 (lkL (p.L k) (d.l k)).toArray rfl rfl ((C0.others (c:=wl.heap.size+1) (o:=0) (by omega) _).there 0 _ (by show 0+14<=14;omega)) (by rw[z6C];rfl) o2 (z0b (b:=wl.heap.size+0) (by omega) _ 0 _ (z0b (b:=wl.heap.size+1) (by omega) _ 0 _ f)) ?_
  have D6:=(CAt.z0C (ds:=(lkL (p.L k) (v.l k)).toArray) C1 rfl).others (c:=wl.heap.size+0) (o:=0) (by omega) ((lkL (p.L k) (d.l k)).toArray).toList
  have D7:=CAt.z0C (ds:=(lkL (p.L k) (d.l k)).toArray) (C0.others (c:=wl.heap.size+1) (o:=0) (by omega) ((lkL (p.L k) (v.l k)).toArray).toList) rfl
  have DB:=z0b (b:=wl.heap.size+0) (by omega) ((lkL (p.L k) (d.l k)).toArray).toList 0 _ (z0b (b:=wl.heap.size+1) (by omega) ((lkL (p.L k) (v.l k)).toArray).toList 0 _ f)
  refine wpAnyH_done (by kernel_rfl) ?_ _
  exact NoPanic.normal (HK.out (wl.heap.size+1) (wl.heap.size+0) _ _ _ _ _ _ _ _ _ DB D6 D7)
set_option maxRecDepth 1000000 in
theorem q7Y(g g' k n f h c d Cq Y:Nat)(hk:k<n)(x:Int×Pkt)(y1 y2 a7 a8:Value)(wl:World)(hF:∀ wx,Bl wl wx->wx.cell? ⟨g,96,none⟩=some (J1 (some ⟨f,h,none⟩) n Cq)/\wx.cell? ⟨g',96,none⟩=some (J1 (some ⟨c,d,none⟩) n Y)/\(wx.cell? ⟨f,h+k * 7,none⟩=some (J I x.1)/\wx.cell? ⟨f,h+k * 7+1,none⟩=some (J I x.2.k)/\wx.cell? ⟨f,h+k * 7+2,none⟩=some (J I x.2.i)/\wx.cell? ⟨f,h+k * 7+3,none⟩=some (J I x.2.v)/\wx.cell? ⟨f,h+k * 7+4,none⟩=some (J I x.2.n)/\wx.cell? ⟨f,h+k * 7+5,none⟩=some y1/\wx.cell? ⟨f,h+k * 7+6,none⟩=some y2)/\(wx.cell? ⟨c,d+k * 7,none⟩=some (J I x.1)/\wx.cell? ⟨c,d+k * 7+1,none⟩=some (J I x.2.k)/\wx.cell? ⟨c,d+k * 7+2,none⟩=some (J I x.2.i)/\wx.cell? ⟨c,d+k * 7+3,none⟩=some (J I x.2.v)/\wx.cell? ⟨c,d+k * 7+4,none⟩=some (J I x.2.n)/\wx.cell? ⟨c,d+k * 7+5,none⟩=some a7/\wx.cell? ⟨c,d+k * 7+6,none⟩=some a8))
  (j:∀ wx,Bl wl wx->Calls prog 57 #[J4 #[J I x.2.k,J I x.2.i,J I x.2.v,J I x.2.n,y1,y2],J4 #[J I x.2.k,J I x.2.i,J I x.2.v,J I x.2.n,a7,a8]] wx fun e w'=>e=.returned (J3 true)/\Bl wl w') (v0 v1 v4 v5 v6 v7 v9 b4 b5 b6 b7 b9 c4 c5 c6 c7 c8 c9 d0 d1 d2 d3 d4 d5 d6 d7 d8 d9 e0 e1 e2 e3 e4 e5 e6 e7 e8 e9 f4 f5 f6 f7 f8 f9 g0 g1 g2 g3 g5 g6 g8 g9 h4 h5 h6 h7 h8 h9 i0 i1 i2 i3 i4 i5 i6 i7 i8 i9 j0 j1 j2 j3 j4 j5 j6 j7 j8 j9 k0 k1 k2 k3 k4 k5 k6 k7 k8 k9 l4 l5 l6 l7 l8 l9 m0 m1 m2 l m o p q r s t u w y z A B C D E F G H L M N P R T U V m3 m4 m5 m6 m7 m8 m9 n0 n1 n2 n3 n4 n5 n6 n7 n8 n9 o0 o1 o2 o3 o4 o5 o6 o7 o8 o9 p7 p8 W:Value) (Q:Exit->Act->World->Prop)
  (hQ:∀ (p9 q4 q5 q6 q7 q8 q9 r0 r3 r4 r5 r6 r7 r8 r9 s0 s1 s2 s3 s4 s5 s6 s7 s8 s9 t0 t1 t2:Value) (w5:World),Bl wl w5->Q .normal ⟨List.toArray (v0 :: v1 :: (J2 (some ⟨g,0,none⟩)) :: (J2 (some ⟨g',0,none⟩)) :: v4 :: v5 :: v6 :: v7 :: (J I (k:Int)) :: v9 :: b4 :: b5 :: b6 :: b7 :: b9 :: c4 :: c5 :: c6 :: c7 :: c8 :: c9 :: d0 :: d1 :: d2 :: d3 :: d4 :: d5 :: d6 :: d7 :: d8 :: d9 :: e0 :: e1 :: e2 :: e3 :: e4 :: e5 :: e6 :: e7 :: e8 :: e9 :: f4 :: f5 :: f6 :: f7 :: f8 :: f9 :: g0 :: g1 :: g2 :: g3 :: g5 :: g6 :: g8 :: g9 :: h4 :: h5 :: h6 :: h7 :: h8 :: h9 :: i0 :: i1 :: i2 :: i3 :: i4 :: i5 :: i6 :: i7 :: i8 :: i9 :: j0 :: j1 :: j2 :: j3 :: j4 :: j5 :: j6 :: j7 :: j8 :: j9 :: k0 :: k1 :: k2 :: k3 :: k4 :: k5 :: k6 :: k7 :: k8 :: k9 :: l4 :: l5 :: l6 :: l7 :: l8 :: l9 :: m0 :: m1 :: m2 :: l :: m :: o :: p :: q :: r :: s :: t :: u :: w :: y :: z :: A :: B :: C :: D :: E :: F :: G :: H :: L :: M :: N :: P :: R :: T :: U :: V :: (p9) :: (q4) :: (q5) :: (q6) :: (q7) :: (q8) :: (q9) :: (r0) :: (r3) :: (r4) :: (r5) :: (r6) :: (r7) :: (r8) :: (r9) :: (s0) :: (s1) :: (s2) :: (s3) :: (s4) :: (s5) :: (s6) :: (s7) :: (s8) :: (s9) :: (t0) :: (t1) :: (t2) :: (J3 false) :: W :: []),[]⟩ w5) :
  Code.wp prog j0N Q ⟨List.toArray (v0 :: v1 :: (J2 (some ⟨g,0,none⟩)) :: (J2 (some ⟨g',0,none⟩)) :: v4 :: v5 :: v6 :: v7 :: (J I (k:Int)) :: v9 :: b4 :: b5 :: b6 :: b7 :: b9 :: c4 :: c5 :: c6 :: c7 :: c8 :: c9 :: d0 :: d1 :: d2 :: d3 :: d4 :: d5 :: d6 :: d7 :: d8 :: d9 :: e0 :: e1 :: e2 :: e3 :: e4 :: e5 :: e6 :: e7 :: e8 :: e9 :: f4 :: f5 :: f6 :: f7 :: f8 :: f9 :: g0 :: g1 :: g2 :: g3 :: g5 :: g6 :: g8 :: g9 :: h4 :: h5 :: h6 :: h7 :: h8 :: h9 :: i0 :: i1 :: i2 :: i3 :: i4 :: i5 :: i6 :: i7 :: i8 :: i9 :: j0 :: j1 :: j2 :: j3 :: j4 :: j5 :: j6 :: j7 :: j8 :: j9 :: k0 :: k1 :: k2 :: k3 :: k4 :: k5 :: k6 :: k7 :: k8 :: k9 :: l4 :: l5 :: l6 :: l7 :: l8 :: l9 :: m0 :: m1 :: m2 :: l :: m :: o :: p :: q :: r :: s :: t :: u :: w :: y :: z :: A :: B :: C :: D :: E :: F :: G :: H :: L :: M :: N :: P :: R :: T :: U :: V :: m3 :: m4 :: m5 :: m6 :: m7 :: m8 :: m9 :: n0 :: n1 :: n2 :: n3 :: n4 :: n5 :: n6 :: n7 :: n8 :: n9 :: o0 :: o1 :: o2 :: o3 :: o4 :: o5 :: o6 :: o7 :: o8 :: o9 :: p7 :: p8 :: W :: []),[]⟩ wl:=by
 have HK:=J6 hQ;have t3:(k:Int)<(n:Int):=by omega
 have t4:(0:Int)<=(k:Int):=by omega
 have HC:=J6 j;have X:=J6 hF;clear hQ j hF
 conv=>arg 2;whnf
 refine wp_region_noPanic ?_;have b:Bl wl wl.drew:=(Below.refl _ wl).drew;refine wp_region_held (S:=fun wx=>Bl wl wx) (by kernel_rfl) ?_
 change wpAnyH _ _ _ _ _ _ _ _ wl.drew;refine O.Z 0 (J2 (some ⟨g,96,none⟩)) 128 rfl rfl b ?_ ?_
 ·intro wx a;go_simp
 simp only[O.pp,O.pb,O.pc];refine O.Z 1 (J1 (some ⟨f,h,none⟩) n Cq) 129 rfl rfl b ?_ ?_
 ·intro wx a;obtain⟨l1,l2,-,-⟩:=X.out wx a;go_simp
 simp only[O.pp,O.pb,O.pc];refine O.Z 2 (J I (k:Int)) 130 rfl rfl b ?_ ?_
 ·intro wx a;go_simp
 simp only[O.pp,O.pb,O.pc];refine O.Z 3 (J2 (some ⟨f,h+k * 7,none⟩)) 131 rfl rfl b ?_ ?_
 ·intro wx a;go_simp
 simp only[O.pp,O.pb,O.pc];refine O.Z 4 (J2 (some ⟨f,h+k * 7,none⟩)) 132 rfl rfl b ?_ ?_
 ·intro wx a;go_simp
 simp only[O.pp,O.pb,O.pc];refine O.Z 5 (J I x.1) 133 rfl rfl b ?_ ?_
 ·intro wx a;obtain⟨-,-,⟨a0,a1,a2,a3,a4,a5,a6⟩,-⟩:=X.out wx a;go_simp
 simp only[O.pp,O.pb,O.pc];refine O.Z 6 (J2 (some ⟨g',96,none⟩)) 134 rfl rfl b ?_ ?_
 ·intro wx a;go_simp
 simp only[O.pp,O.pb,O.pc];refine O.Z 7 (J1 (some ⟨c,d,none⟩) n Y) 135 rfl rfl b ?_ ?_
 ·intro wx a;obtain⟨l1,l2,-,-⟩:=X.out wx a;go_simp
 simp only[O.pp,O.pb,O.pc];refine O.Z 8 (J I (k:Int)) 136 rfl rfl b ?_ ?_
 ·intro wx a;go_simp
 simp only[O.pp,O.pb,O.pc];refine O.Z 9 (J2 (some ⟨c,d+k * 7,none⟩)) 137 rfl rfl b ?_ ?_
 ·intro wx a;go_simp
 simp only[O.pp,O.pb,O.pc];refine O.Z 10 (J2 (some ⟨c,d+k * 7,none⟩)) 138 rfl rfl b ?_ ?_
 ·intro wx a;go_simp
 simp only[O.pp,O.pb,O.pc];refine O.Z 11 (J I x.1) 139 rfl rfl b ?_ ?_
 ·intro wx a;obtain⟨-,-,-,⟨a0,a1,a2,a3,a4,a5,a6⟩⟩:=X.out wx a;go_simp
 simp only[O.pp,O.pb,O.pc];refine O.Z 12 (J3 false) 140 rfl rfl b ?_ ?_
 ·intro wx a;go_simp
 simp only[O.pp,O.pb,O.pc];refine O.Z 13 (J3 false) 141 rfl rfl b ?_ ?_
 ·intro wx a;go_simp
 simp only[O.pp,O.pb,O.pc];refine O.Z 14 (J2 (some ⟨g,96,none⟩)) 142 rfl rfl b ?_ ?_
 ·intro wx a;go_simp
 simp only[O.pp,O.pb,O.pc];refine O.Z 15 (J1 (some ⟨f,h,none⟩) n Cq) 143 rfl rfl b ?_ ?_
 ·intro wx a;obtain⟨l1,l2,-,-⟩:=X.out wx a;go_simp
 simp only[O.pp,O.pb,O.pc];refine O.Z 16 (J I (k:Int)) 144 rfl rfl b ?_ ?_
 ·intro wx a;go_simp
 simp only[O.pp,O.pb,O.pc];refine O.Z 17 (J2 (some ⟨f,h+k * 7,none⟩)) 145 rfl rfl b ?_ ?_
 ·intro wx a;go_simp
 simp only[O.pp,O.pb,O.pc];refine O.Z 18 (J2 (some ⟨f,h+k * 7+1,none⟩)) 146 rfl rfl b ?_ ?_
 ·intro wx a;go_simp
 simp only[O.pp,O.pb,O.pc];refine O.Z 19 (J4 #[J I x.2.k,J I x.2.i,J I x.2.v,J I x.2.n,y1,y2]) 147 rfl rfl b ?_ ?_
 ·intro wx a;obtain⟨-,-,⟨a0,a1,a2,a3,a4,a5,a6⟩,-⟩:=X.out wx a;go_simp
 simp only[O.pp,O.pb,O.pc];refine O.Z 20 (J2 (some ⟨g',96,none⟩)) 148 rfl rfl b ?_ ?_
 ·intro wx a;go_simp
 simp only[O.pp,O.pb,O.pc];refine O.Z 21 (J1 (some ⟨c,d,none⟩) n Y) 149 rfl rfl b ?_ ?_
 ·intro wx a;obtain⟨l1,l2,-,-⟩:=X.out wx a;go_simp
 simp only[O.pp,O.pb,O.pc];refine O.Z 22 (J I (k:Int)) 150 rfl rfl b ?_ ?_
 ·intro wx a;go_simp
 simp only[O.pp,O.pb,O.pc];refine O.Z 23 (J2 (some ⟨c,d+k * 7,none⟩)) 151 rfl rfl b ?_ ?_
 ·intro wx a;go_simp
 simp only[O.pp,O.pb,O.pc];refine O.Z 24 (J2 (some ⟨c,d+k * 7+1,none⟩)) 152 rfl rfl b ?_ ?_
 ·intro wx a;go_simp
 simp only[O.pp,O.pb,O.pc];refine O.Z 25 (J4 #[J I x.2.k,J I x.2.i,J I x.2.v,J I x.2.n,a7,a8]) 153 rfl rfl b ?_ ?_
 ·intro wx a;obtain⟨-,-,-,⟨a0,a1,a2,a3,a4,a5,a6⟩⟩:=X.out wx a;go_simp
 simp only[O.pp,O.pb,O.pc];refine wpAnyH_ready (rs:=[26]) (by kernel_rfl) (by simp) ?_
 refine AllReadyH.cons rfl (fun K hK=>?_) AllReadyH.nil;rw[if_pos (by rfl)]
 go_simp;refine (HC.out _ (by exact b)).mono ?_
 rintro e wy⟨rfl,a9⟩;refine hK.out _ _ a9 (fun _=>?_);clear hK K b;have b:=a9;clear a9;refine O.Z 27 (J3 false) 155 rfl rfl b ?_ ?_
 ·intro wx a;go_simp
 simp only[O.pp,O.pb,O.pc];refine O.Z 28 (J3 false) 156 rfl rfl b ?_ ?_
 ·intro wx a;go_simp
 simp only[O.pp,O.pb,O.pc];refine wpAnyH_done (by kernel_rfl) ?_ _
 exact NoPanic.normal (HK.out _ _ _ _ _ _ _ _ _ _ _ _ _ _ _ _ _ _ _ _ _ _ _ _ _ _ _ _ _ b)
end Pv
namespace Pv
open Go.RowKit
theorem q8t{P P':Nat->Prop}{w:World}(x:Ln.Line)(v1 v2 a b:Value)(h1:z1I P w v1 1 16 (txC x.S))(h2:z1I P w v2 1 8 (inC x.D))(c:z1I P' w a 1 16 (txC x.S))(d:z1I P' w b 1 8 (inC x.D)) :
  Calls prog 56 #[J4 #[v1,v2,J I x.g,J3 x.cl],J4 #[a,b,J I x.g,J3 x.cl]] w fun e w'=>e=.returned (J3 true)/\Bl w w':=by
 obtain⟨A1,C1,A2,C2,sb,so,db,dO,rfl,rfl,L,-,-⟩:=z1I.line h1 h2;obtain⟨k,l,m,n,f,h,i,j,rfl,rfl,o,-,-⟩:=z1I.line c d;exact Ln.z7a x A1 A2 k m C1 C2 sb so db dO l n f h i j w L o
theorem z0E{w:World}{b:Nat}{p:Pr}{v:PrV}(h:CAt 47 w b (prC p v)):(w.cell? ⟨b,0,none⟩=some (J I p.h)/\w.cell? ⟨b,1,none⟩=some (J I p.t)/\w.cell? ⟨b,65,none⟩=some v.set/\w.cell? ⟨b,94,none⟩=some (J I p.ml)/\w.cell? ⟨b,95,none⟩=some (J I p.mn)/\w.cell? ⟨b,96,none⟩=some v.q)/\(z7R (J2 (some ⟨b,2,none⟩))).run prog w=.ok (J4 (stC p.s v.ws)) w:=
 ⟨⟨h.cell 0,h.cell 1,h.cell 65,h.cell 94,h.cell 95,h.cell 96⟩,z1f h⟩
theorem z2k{w:World}{b:Nat}{x:Lk}{v:LkV}(h:CAt 41 w b (lkL x v).toArray):w.cell? ⟨b,0,none⟩=some (J3 x.on)/\w.cell? ⟨b,1,none⟩=some (J3 x.gone)/\w.cell? ⟨b,2,none⟩=some (J I x.base)/\w.cell? ⟨b,3,none⟩=some v.told/\w.cell? ⟨b,4,none⟩=some (J3 x.fresh)/\w.cell? ⟨b,5,none⟩=some v.done/\(w.cell? ⟨b,6,none⟩=some v.said/\w.cell? ⟨b,7,none⟩=some v.due/\w.cell? ⟨b,8,none⟩=some (J I x.out.g)/\w.cell? ⟨b,9,none⟩=some (J3 x.out.cl))/\(w.cell? ⟨b,10,none⟩=some (J I x.h0)/\w.cell? ⟨b,11,none⟩=some (J I x.h1)/\w.cell? ⟨b,12,none⟩=some (J I x.h2)/\w.cell? ⟨b,13,none⟩=some (J I x.h3)):=
 ⟨h.cell 0,h.cell 1,h.cell 2,h.cell 3,h.cell 4,h.cell 5,⟨h.cell 6,h.cell 7,h.cell 8,h.cell 9⟩,⟨h.cell 10,h.cell 11,h.cell 12,h.cell 13⟩⟩
attribute [local go_sem ↓] z0O
set_option maxRecDepth 1000000 in
theorem z8u(p:Pr)(v A:PrV)(P P':Nat->Prop)(w:World)(hp:PIn P w p v)(a8:PIn P' w p A) :
  Calls prog 19 #[J4 (prC p v),J4 (prC p A)] w fun e w'=>e=.returned (J3 true)/\Bl w w':=by
 obtain⟨vw,vs,vl,vq⟩:=v;obtain⟨g0,g1,g2,k1⟩:=A;obtain⟨z,a9,e8,e9⟩:=id hp.q;obtain⟨z',B,V,W⟩:=id a8.q;obtain⟨Aq,Cq,eq,sq,-,cq,-⟩:=e8.open (z1h _ _ a9) (by decide)
 obtain⟨f4,b7,f5,k2,-,f6,-⟩:=V.open (z1h _ _ B) (by decide)
 dsimp only at eq f5;subst eq f5;have X:=J6 (show _/\_/\_/\_/\_/\_ from⟨a9,B,e9,W,cq,f6⟩);clear a9 B e9 W cq f6 e8 V;have HP:=J6 hp;have C:=J6 a8;clear hp a8;generalize hv:(⟨vw,vs,vl,J1 Aq p.q.length Cq⟩:PrV)=v at *;generalize f7:(⟨g0,g1,g2,J1 f4 p.q.length b7⟩:PrV)=A at *;have r:v.q=J1 Aq p.q.length Cq:=by rw[<- hv]
 have c:A.q=J1 f4 p.q.length b7:=by rw[<- f7]
 clear hv f7;obtain⟨cs,b9⟩:∃ cs,prC p v=cs:=⟨_,rfl⟩;obtain⟨E,F⟩:∃ cs,prC p A=cs:=⟨_,rfl⟩;rw[b9,F];have M:=J6 (show _/\_ from⟨b9,F⟩);clear b9 F
 go_enter func19,ntmps19
 go_upto_region 1 with fail
 have C1:CAt 47 ((w.alloc (J5 cs 47)).alloc (J5 E 47)) w.heap.size (prC p v):=by rw[M.out.1];exact (CAt.new _ w cs).alloc _
 have D1:CAt 47 ((w.alloc (J5 cs 47)).alloc (J5 E 47)) (w.heap.size+1) (prC p A):=by rw[M.out.2];exact CAt.new2 47 w _ E
 have B1:Bl w ((w.alloc (J5 cs 47)).alloc (J5 E 47)):=(znw w _).alloc (by simp) _
 generalize (w.alloc (J5 cs 47)).alloc (J5 E 47)=w1 at *;have t:=J6 (show _/\_/\_ from⟨C1,D1,B1⟩);obtain⟨⟨a0,a1,a2,a3,a4,G⟩,a6⟩:=z0E C1;obtain⟨⟨b0,b1,b2,b3,b4,Y⟩,b6⟩:=z0E D1;rw[r]at G;rw[c]at Y;clear C1 D1 B1
 go_upto_region 3 with (first
  | (go_at_call 54;refine (q4r p.s v.ws A.ws (HP.out.ws.over t.out.2.2) (C.out.ws.over t.out.2.2)).mono ?_;rintro e w2⟨rfl,N⟩;have Z:=J6 (show _/\_/\_ from⟨t.out.1.over N,t.out.2.1.over N,zbt t.out.2.2 N⟩);clear a0 a1 a2 a3 a4 G a6 b0 b1 b2 b3 b4 Y b6 N;obtain⟨⟨a0,a1,a2,a3,a4,G⟩,a6⟩:=z0E Z.out.1;obtain⟨⟨b0,b1,b2,b3,b4,Y⟩,b6⟩:=z0E Z.out.2.1;rw[r]at G;rw[c]at Y)
  | (go_at_call 55;refine (z6A p.set v.set A.set (HP.out.set.over Z.out.2.2) (C.out.set.over Z.out.2.2)).mono ?_;rintro e w3⟨rfl,Q⟩;have d:=J6 (show _/\_/\_ from⟨Z.out.1.over Q,Z.out.2.1.over Q,zbt Z.out.2.2 Q⟩);clear a0 a1 a2 a3 a4 G a6 b0 b1 b2 b3 b4 Y b6 Q;obtain⟨⟨a0,a1,a2,a3,a4,G⟩,a6⟩:=z0E d.out.1;obtain⟨⟨b0,b1,b2,b3,b4,Y⟩,b6⟩:=z0E d.out.2.1;rw[r]at G;rw[c]at Y))
 clear a0 a1 a2 a3 a4 G a6 b0 b1 b2 b3 b4 Y b6 t Z;have g5:p.q.length<=1800000000000:=by omega
 go_upto_region 4 with fail
 go_loopw [53] (fun i wl=>∃ (k:Nat),k<=2/\i=J I (k:Int)/\Hid (Bl w3 wl)) (fun i _=>(2 - intOf i).toNat)
 case atStart=>exact⟨0,by omega,rfl,Below.refl _ _⟩
 case round =>
  obtain⟨k,hk,rfl,f⟩:=hrel
  by_cases e0:k<2
  ·have k3:(k:Int)<2:=by omega
   go_upto_region 6 with fail
   have a:Bl w wr:=zbt d.out.2.2 f.out;have e1:=(HP.out.lk k e0).keep (w':=wr) fun b _ g=>a.block b g;have e2:=(C.out.lk k e0).keep (w':=wr) fun b _ g=>a.block b g;refine q9R w.heap.size (w.heap.size+1) k e0 p v A wr (d.out.1.over f.out) (d.out.2.1.over f.out) _ _ _ _ _ _ _ _ _ _ _ _ _ _ _ _ _ _ _ _ _ _ _ _ _ _ _ _ _ _ _ _ _ _ _ _ _ _ _ _ _ _ _ _ _ _ _ _ _ _ _ _ _ _ _ _ _ _ _ _ _ _ _ _ _ _ _ _ _ _ _ _ _ _ _ _ _ _ _ _ _ _ _ _ _ _ _ _ _ _ _ _ _ _ _ _ _ _ _ _ _ _ _ _ _ _ _ _ _ _ _ _ _ _ _ _ _ _ _ _ _ _ _ _ _ _ _ _ _ _ _ _ _ _ _ _ _ _ _ _ _ _ _ _ _ _ _ _ _ _ _ _ _ _ _ _ ⟨z5S e1,z5S e2⟩ ?_;intro x6 x7 k4 k5 k6 k7 k8 k9 l4 l5 w5 e3 h6 h7;have R:=J6 (show _/\_ from⟨e1,e2⟩);have T:=J6 (show _/\_/\_/\_ from⟨h6,h7,e3,zbt f.out e3⟩);clear e1 e2 h6 h7 e3 a f;obtain⟨c0,c1,c2,c3,c4,c5,⟨c6,c7,c8,c9⟩,⟨ca,cb,cc,cd⟩⟩:=z2k T.out.1;obtain⟨d0,d1,d2,d3,d4,d5,⟨d6,d7,d8,d9⟩,⟨da,db,dc,dd⟩⟩:=z2k T.out.2.1;generalize p.L k=x at *;generalize v.l k=u at *;generalize A.l k=u' at *;simp only[Exit.then];apply_assumption
   go_upto_region 9 with (first
    | (go_at_call 55;refine (z6A x.told u.told u'.told (R.out.1.told.over T.out.2.2.1) (R.out.2.told.over T.out.2.2.1)).mono ?_;rintro e w6⟨rfl,m⟩;have U:=J6 (show _/\_/\_/\_ from⟨T.out.1.over m,T.out.2.1.over m,zbt T.out.2.2.1 m,zbt T.out.2.2.2 m⟩);clear c0 c1 c2 c3 c4 c5 c6 c7 c8 c9 ca cb cc cd d0 d1 d2 d3 d4 d5 d6 d7 d8 d9 da db dc dd;clear m;obtain⟨c0,c1,c2,c3,c4,c5,⟨c6,c7,c8,c9⟩,⟨ca,cb,cc,cd⟩⟩:=z2k U.out.1;obtain⟨d0,d1,d2,d3,d4,d5,⟨d6,d7,d8,d9⟩,⟨da,db,dc,dd⟩⟩:=z2k U.out.2.1)
    | (go_at_call 18;refine (z6o x.done u.done u'.done (R.out.1.done.over U.out.2.2.1) (R.out.2.done.over U.out.2.2.1)).mono ?_;rintro e w7⟨rfl,H⟩;have E7:=J6 (show _/\_/\_/\_ from⟨U.out.1.over H,U.out.2.1.over H,zbt U.out.2.2.1 H,zbt U.out.2.2.2 H⟩);clear c0 c1 c2 c3 c4 c5 c6 c7 c8 c9 ca cb cc cd d0 d1 d2 d3 d4 d5 d6 d7 d8 d9 da db dc dd;clear H;obtain⟨c0,c1,c2,c3,c4,c5,⟨c6,c7,c8,c9⟩,⟨ca,cb,cc,cd⟩⟩:=z2k E7.out.1;obtain⟨d0,d1,d2,d3,d4,d5,⟨d6,d7,d8,d9⟩,⟨da,db,dc,dd⟩⟩:=z2k E7.out.2.1)
    | (go_at_call 56;refine (q8t x.out u.said u.due u'.said u'.due (R.out.1.said.over E7.out.2.2.1) (R.out.1.due.over E7.out.2.2.1) (R.out.2.said.over E7.out.2.2.1) (R.out.2.due.over E7.out.2.2.1)).mono ?_;rintro e w8⟨rfl,hb8⟩;have E8:=J6 (zbt E7.out.2.2.2 hb8);clear c0 c1 c2 c3 c4 c5 c6 c7 c8 c9 ca cb cc cd d0 d1 d2 d3 d4 d5 d6 d7 d8 d9 da db dc dd;clear hb8))
   clear R T U E7;go_wp2
   first | exact⟨⟨k+1,by omega,by go_num,E8⟩,by simp[intOf];omega⟩ | ((repeat apply Exists.intro);exact⟨⟨k+1,by omega,by go_num,E8⟩,rfl⟩)
  ·obtain rfl:k=2:=by omega
   rename World=>w9
   have t:=J6 (show _/\_/\_ from⟨d.out.1.over f.out,d.out.2.1.over f.out,zbt d.out.2.2 f.out⟩);clear f d;obtain⟨⟨a0,a1,a2,a3,a4,G⟩,a6⟩:=z0E t.out.1;rw[r]at G;clear a0 a1 a2 a3 a4 a6
   go_upto_region 11 with fail
   clear G
   go_loopw [125] (fun i wl=>∃ (k:Nat),k<=p.q.length/\i=J I (k:Int)/\Hid (Bl w9 wl)) (fun i _=>p.q.length - (intOf i).toNat)
   case atStart=>exact⟨0,Nat.zero_le _,rfl,Below.refl _ _⟩
   case round =>
    obtain⟨k,hk,rfl,f⟩:=hrel
    by_cases g:k<p.q.length
    ·have l6:(k:Int)<(p.q.length:Int):=by omega
     go_upto_region 13 with fail
     obtain⟨x,hx⟩:∃ x,p.q[k]?=some x:=⟨_,List.getElem?_eq_getElem g⟩;obtain⟨y,hy⟩:∃ y,z[k]?=some y:=⟨_,List.getElem?_eq_getElem (by rw[X.out.1];exact g)⟩
     obtain⟨y',e4⟩:∃ y,z'[k]?=some y:=⟨_,List.getElem?_eq_getElem (by rw[X.out.2.1];exact g)⟩
     have e5:=X.out.2.2.1 k x y hx hy;have K:=X.out.2.2.2.1 k x y' hx e4;obtain⟨bq,oq,rfl,-,f8,hcell⟩:=X.out.2.2.2.2.1 (by omega)
     obtain⟨e6,e7,rfl,-,a7,hcell'⟩:=X.out.2.2.2.2.2 (by omega)
     have a:∀ wx,Bl wr wx->Bl w wx:=fun wx h=>t.out.2.2.trans ((zbt f.out h).mono t.out.2.2.size)
     have hc:∀ wx,Bl wr wx->∀ j,j<7->∀ u,(akL x y)[j]?=some u->wx.cell? ⟨bq,oq+k * 7+j,none⟩=some u:=fun wx h j hj u hu=>by
      rw[(a wx h).cell (p:=⟨bq,oq+k * 7+j,none⟩) f8,Nat.add_assoc];exact hcell _ _ ((z2W p.q z k x y j hx hy hj).trans hu)
     have o:∀ wx,Bl wr wx->∀ j,j<7->∀ u,(akL x y')[j]?=some u->wx.cell? ⟨e6,e7+k * 7+j,none⟩=some u:=fun wx h j hj u hu=>by
      rw[(a wx h).cell (p:=⟨e6,e7+k * 7+j,none⟩) a7,Nat.add_assoc];exact hcell' _ _ ((z2W p.q z' k x y' j hx e4 hj).trans hu)
     refine q7Y w.heap.size (w.heap.size+1) k p.q.length bq oq e6 e7 Cq b7 g x y.1 y.2 y'.1 y'.2 wr (fun wx h=>⟨?_,?_,⟨hc wx h 0 (by omega) _ rfl,hc wx h 1 (by omega) _ rfl,hc wx h 2 (by omega) _ rfl,hc wx h 3 (by omega) _ rfl,hc wx h 4 (by omega) _ rfl,hc wx h 5 (by omega) _ rfl,hc wx h 6 (by omega) _ rfl⟩,⟨o wx h 0 (by omega) _ rfl,o wx h 1 (by omega) _ rfl,o wx h 2 (by omega) _ rfl,o wx h 3 (by omega) _ rfl,o wx h 4 (by omega) _ rfl,o wx h 5 (by omega) _ rfl,o wx h 6 (by omega) _ rfl⟩⟩)
      (fun wx h=>(q2h x.2.k x.2.i x.2.v x.2.n x.2.S x.2.D y.1 y.2 y'.1 y'.2 (e5.1.over (a wx h)) (e5.2.over (a wx h)) (K.1.over (a wx h)) (K.2.over (a wx h))).mono fun _ _ hh=>⟨hh.1,zbt h hh.2⟩) _ _ _ _ _ _ _ _ _ _ _ _ _ _ _ _ _ _ _ _ _ _ _ _ _ _ _ _ _ _ _ _ _ _ _ _ _ _ _ _ _ _ _ _ _ _ _ _ _ _ _ _ _ _ _ _ _ _ _ _ _ _ _ _ _ _ _ _ _ _ _ _ _ _ _ _ _ _ _ _ _ _ _ _ _ _ _ _ _ _ _ _ _ _ _ _ _ _ _ _ _ _ _ _ _ _ _ _ _ _ _ _ _ _ _ _ _ _ _ _ _ _ _ _ _ _ _ _ _ _ _ _ _ _ _ _ _ _ _ _ _ _ _ _ _ _ _ _ _ _ _ _ _ _ _ _ ?_
     ·rw[<- r];exact (z0E ((t.out.1.over f.out).over h)).1.2.2.2.2.2
     ·rw[<- c];exact (z0E ((t.out.2.1.over f.out).over h)).1.2.2.2.2.2
     intro g6 g8 g9 h4 h5 h8 h9 i0 i1 i2 i3 i4 i5 i6 i7 i8 i9 j0 j1 j2 j3 j4 j5 j6 j7 j8 j9 k0 w6 m;have f9:=J6 (zbt f.out m);clear hc o a hcell hcell' e5 K m f hx hy e4 X t HP C M r c f8 a7;go_wp2
     first | exact⟨⟨k+1,by omega,by go_num,f9⟩,by simp[intOf];omega⟩ | ((repeat apply Exists.intro);exact⟨⟨k+1,by omega,by go_num,f9⟩,rfl⟩)
    ·obtain rfl:k=p.q.length:=by omega
     have g3:=J6 (zbt t.out.2.2 f.out);clear X t HP C M r c f;go_wp2;go_ret;exact⟨rfl,g3.out⟩
end Pv
namespace Pv
open Go.RowKit
def z1L(h:Int)(x:Lk):Bool:=z1v (-1) x.done && (!(x.on && x.gone) && decide (0<=x.base) && decide (x.base<=h) && z2h (-1) x.told && Ln.z1C x.out)
def z3i(L:Nat->Lk)(a:Int×Pkt):Bool:=decide (0<=a.1) && decide (a.1<=1) && (L a.1.toNat).on && decide (a.2.k≠1) && decide (Cd.z0o a.2.k a.2.i a.2.v a.2.n a.2.S a.2.D=0)
def z1s(p:Pr):Bool:=(z0j p.s && decide (0<=p.h) && decide (p.h<=1099511627775) && decide (0<=p.t) && decide (p.t<=1099511627776) && z2h (-1) p.set) && (z1L p.h (p.L 0) && z1L p.h (p.L 1)) && p.q.all (z3i p.L)
structure GG(p:Pr)(G:Bool):Prop where
 one:(z0j p.s && decide (0<=p.h) && decide (p.h<=1099511627775) && decide (0<=p.t) && decide (p.t<=1099511627776) && z2h (-1) p.set)=false->G=false
 lks:∀ k,k<2->z1L p.h (p.L k)=false->G=false
 qus:∀ (i:Nat) (x:Int×Pkt),p.q[i]?=some x->z3i p.L x=false->G=false
 all:(z0j p.s && decide (0<=p.h) && decide (p.h<=1099511627775) && decide (0<=p.t) && decide (p.t<=1099511627776) && z2h (-1) p.set)=true->(∀ k,k<2->z1L p.h (p.L k)=true)->(∀ (i:Nat) (x:Int×Pkt),p.q[i]?=some x->z3i p.L x=true)->G=true
theorem z9U(p:Pr):GG p (z1s p):=by
 refine⟨fun h=>by simp only[z1s,h,Bool.false_and],fun k b h=>?_,fun i x a h=>?_,fun h1 h2 h3=>?_⟩
 ·have e:(z1L p.h (p.L 0) && z1L p.h (p.L 1))=false:=by
   match k,b with
   | 0,_=>rw[h,Bool.false_and]
   | 1,_=>rw[h,Bool.and_false]
  simp only[z1s,e,Bool.and_false,Bool.false_and]
 ·have e:p.q.all (z3i p.L)=false:=by
   rw[List.all_eq_false];exact⟨x,List.mem_of_getElem? a,by rw[h];simp⟩
  simp only[z1s,e,Bool.and_false]
 ·have e:p.q.all (z3i p.L)=true:=by
   rw[List.all_eq_true];intro x a;obtain⟨i,c⟩:=List.getElem?_of_mem a;exact h3 i x c
  simp only[z1s,h1,h2 0 (by omega),h2 1 (by omega),e,Bool.and_self]
end Pv
section
def z3H(x:Vd)(pb a:Int):Vd:={ x with tok:=x.tok - pb,lost:=x.lost+(pb+a) }
def z0Q(s:St)(v:Nat)(h f:Int):St:={ s with b:=(z0Y s.b (ptN (s.V v).tok f) (slN v h f s.W)).1,V:=z2a s.V v (z3H (s.V v) (ptN (s.V v).tok f) (slN v h f s.W)),W:=slW v h f s.W }
theorem q3G{b:Bk}{x y:Int}(d:b.good=true)(a:0<=x/\x<=b.bo)(c:0<=y/\y<=b.wa):(z0Y b x y).2=0/\(z0Y b x y).1.good=true/\(z0Y b x y).1.bo=b.bo - x/\(z0Y b x y).1.wa=b.wa - y/\(z0Y b x y).1.bu=b.bu+(x+y):=by
 have h:=(z5k b).1 d;have h1:=z6U (f:=4) (t:=6) d a.1 (by omega) a.2
 have e:=(z9k (f:=4) (t:=6) (.inr (.inr (.inr (.inl ⟨rfl,rfl⟩)))) d a.1 a.2).1;have h2:=z6U (f:=5) (t:=6) e c.1 (by omega) (show y<=b.wa from c.2)
 have g:=(z9k (f:=5) (t:=6) (.inr (.inr (.inr (.inr ⟨rfl,rfl⟩)))) e c.1 (show y<=b.wa from c.2)).1;unfold z0Y;rw[h1];simp only[if_true];rw[h2];simp only[if_true];refine⟨trivial,g,rfl,rfl,?_⟩
 show b.bu+x+y=_
 omega
theorem q3C(v h f:Int)(x:Wt):(slX v h f x).num=x.num/\(slX v h f x).d=x.d/\(slX v h f x).v=x.v/\(slX v h f x).hei=x.hei/\(slX v h f x).due=x.due/\(slX v h f x).amt=x.amt - slP v h f x:=by
 unfold slX slP
 split
 ·exact⟨rfl,rfl,rfl,rfl,rfl,rfl⟩
 ·exact⟨rfl,rfl,rfl,rfl,rfl,by omega⟩
theorem z8i{next v h f:Int}(a:0<=f/\f<=1000):∀ {W:List Wt} {last:Int},wOk next last W=true->wOk next last (slW v h f W)=true
 | [],_,_=>rfl
 | x :: W,last,hw=>by
  obtain⟨b,c,d,e,g,i⟩:=q3C v h f x;simp only[wOk,q1W,Bool.and_eq_true,decide_eq_true_eq,z5v,z3g,z1n]at hw;obtain⟨⟨⟨⟨⟨⟨⟨h1,h2⟩,h3⟩,j⟩,k⟩,l⟩,m⟩,n⟩:=hw;have p:=q6Q (v:=v) (h:=h) k a;have o:=z8i (v:=v) (h:=h) a n;simp only[slW,List.map_cons,wOk,q1W,Bool.and_eq_true,decide_eq_true_eq,z5v,z3g,z1n,b,c,d,e,g,i];exact⟨⟨⟨⟨⟨⟨⟨h1,h2⟩,h3⟩,j⟩,by omega⟩,l⟩,m⟩,o⟩
theorem q5G{V:Nat->Vd}(h:∀ k,k<6->0<=(V k).lost){v:Nat}(a:v<6):(V v).lost<=z2l V 6:=by
 have h0:=h 0 (by omega);have h1:=h 1 (by omega);have h2:=h 2 (by omega);have h3:=h 3 (by omega);have b:=h 4 (by omega);have c:=h 5 (by omega)
 simp only[z2l]
 rcases six a with rfl | rfl | rfl | rfl | rfl | rfl <;> omega
theorem z2H{s:St}(n:z0j s=true){v:Nat}(c:v<6)(h:Int){f:Int}(g:0<=f/\f<=1000):ptE (s.V v).tok f=0/\(0<=ptN (s.V v).tok f/\ptN (s.V v).tok f<=(s.V v).tok)/\(0<=slN v h f s.W/\slN v h f s.W<=s.b.wa)/\(s.V v).tok<=s.b.bo/\(0<=(s.V v).lost/\(s.V v).lost<=s.b.bu)/\s.b.bo<=400000/\s.b.wa<=400000/\s.b.bu<=400000/\z1N s.W<=400000/\(∀ x∈s.W,0<=x.amt/\x.amt<=1125899906842624)/\s.W.length<=60:=by
 obtain⟨h1,h2,h3,o,p,d,q,r,t⟩:=(z0S s).1 n;have u:=(z5k s.b).1 h1;have a:=(z3a _).1 (d v c).1;have i:∀ x∈s.W,0<=x.amt/\x.amt<=1125899906842624:=fun x a=>(z4P p x a).2.2.2.2.1;have j:=q5E a.1 g;have l:=z9A (v:=v) (h:=h) g i;have m:=q7h (fun k e=>((z3a _).1 (d k e).1).1.1) c;have hl:=q5G (fun k e=>((z3a _).1 (d k e).1).2.2.1.1) c;rw[q]at m;rw[r]at l;rw[t]at hl;exact⟨j.1,j.2,l,m,⟨a.2.2.1.1,hl⟩,by omega,by omega,by omega,by omega,i,o⟩
theorem z3A{s:St}(a:z0j s=true){v:Nat}(d:v<6)(h:Int){f:Int}(e:0<=f/\f<=1000):(z0Y s.b (ptN (s.V v).tok f) (slN v h f s.W)).2=0/\(z0Q s v h f).b.good=true/\(z0Q s v h f).b.bo=s.b.bo - ptN (s.V v).tok f/\(z0Q s v h f).b.wa=s.b.wa - slN v h f s.W/\(z0Q s v h f).b.bu=s.b.bu+(ptN (s.V v).tok f+slN v h f s.W):=by
 have c:=z2H a d h e;exact q3G ((z0S s).1 a).1 ⟨c.2.1.1,by omega⟩ c.2.2.1
theorem z6L{s:St}(c:z0j s=true){v:Nat}(d:v<6)(h:Int){f:Int}(e:0<=f/\f<=1000):z0j (z0Q s v h f)=true:=by
 obtain⟨b0,b1,b2,b3,j⟩:=z3A c d h e;obtain⟨w,x,y,z,A,B,C,D,E,l,m⟩:=z2H c d h e;rw[z0S]at c ⊢;obtain⟨h1,h2,h3,n,o,p,q,r,t⟩:=c;have F:=(z5k _).1 b1;refine⟨b1,h2,h3,?_,z8i e o,fun k u=>?_,?_,?_,?_⟩
 ·show (slW v h f s.W).length<=60
  unfold slW;rw[List.length_map];exact n
 ·obtain⟨a,g,i⟩:=p k u
  show vOk (z2a s.V v _ k)=true/\z2F s.S k 4=true/\psh s.S k 4=(z2a s.V v _ k).sh
  unfold z2a
  by_cases b:k=v
  ·subst b;rw[if_pos rfl];rw[z3a]at a;refine⟨?_,g,i⟩;rw[z3a];refine⟨⟨?_,?_⟩,a.2.1,⟨?_,?_⟩,?_,a.2.2.2.2⟩ <;> simp only[z3H] <;> first | omega | (intro G;exact a.2.2.2.1 (by omega))
  ·rw[if_neg b];exact⟨a,g,i⟩
 ·show z5c (z2a s.V v _) 6=_
  rw[q0j _ _ _ d,q,b2];simp only[z3H];omega
 ·show z1N (slW v h f s.W)=_
  rw[q3K,r,b3]
 ·show z2l (z2a s.V v _) 6=_
  rw[z7P _ _ _ d,t,j];simp only[z3H];omega
end
section
open Go.RowKit
theorem z9O(n f:Int)(w:World):Calls prog 164 #[J I n,J I f] w fun e w'=>e=.returned (.tuple #[J I (ptN n f),J I (ptE n f)])/\Bl w w':=Ra.q8I n f w
theorem q2n:∀ (W:List Wt) (k:Nat) (x:Wt) (y:Int),W[k]?=some x->wsL (W.set k { x with amt:=y })=(wsL W).set (k * 8+3) (J I y)
 | [],k,x,y,h=>by simp at h
 | z :: W,0,x,y,h=>by
  simp at h
  subst h;rfl
 | z :: W,k+1,x,y,h=>by
  have a:=q2n W k x y (by simpa using h)
  show wtL z ++ wsL (W.set k _)=(wtL z ++ wsL W).set _ _
  rw[List.set_append_right _ _ (by rw[z1y];omega),z1y,a]
  congr 2
  omega
theorem z1k.amt{B:Nat}{w:World}{g C:Nat}{W:List Wt}(h:z1k B w (some ⟨g,0,none⟩) C W){k:Nat}{x:Wt}(a:W[k]?=some x)(y:Int):z1k B (w.setCell ⟨g,k * 8+3,none⟩ (J I y)) (some ⟨g,0,none⟩) C (W.set k { x with amt:=y }):=by
 have h1:=(World.ownsRow.stored h (k * 8+3) (J I y)).1;unfold z1k;rw[q2n W k x y a,List.length_set];exact h1
theorem z1k.at0{B:Nat}{w:World}{A:Option Addr}{C:Nat}{W:List Wt}(h:z1k B w A C W)(h0:0<W.length):∃ g,A=some ⟨g,0,none⟩/\B<=g/\g<w.heap.size/\∀ k x,W[k]?=some x->(w.cell? ⟨g,k * 8+2,none⟩=some (J I x.v)/\w.cell? ⟨g,k * 8+3,none⟩=some (J I x.amt)/\w.cell? ⟨g,k * 8+4,none⟩=some (J I x.hei)/\w.frozen? ⟨g,k * 8+3,none⟩=false):=by
 have a:=h
 rcases h.2 with⟨hv,hn⟩ | ⟨g,cap,cur,hv,hb,hg,hrest⟩
 ·omega
 ·cases hv;refine⟨g,rfl,hb,(Array.getElem?_eq_some_iff.1 hg).1,fun k x b=>?_⟩
  have c:∀ j v,(wtL x)[j]?=some v->j<8->w.cell? ⟨g,k * 8+j,none⟩=some v:=fun j v d hl=>by
   have:=World.ownsRow.cells a (g:=g) rfl (k * 8+j) v ((z4D W k x j b hl).trans d)
   rwa [Addr.add_lit,Nat.zero_add]at this
  exact⟨c 2 _ rfl (by omega),c 3 _ rfl (by omega),c 4 _ rfl (by omega),World.ownsRow.frozenAt a _⟩
theorem z6b(ao:Option Addr)(W:List Wt)(c sb so:Nat)(v h f:Int)(w:World)(T:z1R w ao sb so W)(U:0<=f/\f<=1000)(F:∀ x∈W,0<=x.amt/\x.amt<=1125899906842624)(hs:z1N W<=400000)(a1:W.length<=60) :
  Calls prog 165 #[J1 ao W.length c,J I v,J I h,J I f] w fun e w'=>∃ A C,e=.returned (.tuple #[J1 A (slW v h f W).length C,J I (slN v h f W),J I 0])/\z1k w.heap.size w' A C (slW v h f W)/\Bl w w':=by
 have G:=z5O ao W c sb so w T;have HL:Hid ((slW v h f W).length=W.length):=by show (slW v h f W).length=W.length;unfold slW;rw[List.length_map]
 have q:Hid (∀ k,0<=slN v h f (W.take k)/\slN v h f (W.take k)<=400000):=fun k=>by
  have h1:=z9A (v:=v) (h:=h) U (W:=W.take k) fun x r=>F x (List.mem_of_mem_take r);have H:z1N W=z1N (W.take k)+z1N (W.drop k):=by rw[<- z2r,List.take_append_drop]
  have V:=z2q (W:=W.drop k) fun y hy=>(F y (List.mem_of_mem_drop hy)).1;omega
 clear T hs
 go_enter func165,ntmps165
 go_upto_region 3 with (go_at_call 146;refine G.mono ?_;rintro e w1⟨A,C,rfl,X,h1⟩;have Y:=J6 X;have Z:=J6 h1;clear X h1)
 go_loopw [12,21] (fun al i wl=>∃ (k:Nat),k<=W.length/\i=J I (k:Int)/\al=J I (slN v h f (W.take k))/\Hid (z1k w.heap.size wl A C (slW v h f (W.take k) ++ W.drop k)/\Bl w wl)) (fun _ i _=>W.length - (intOf i).toNat)
 case atStart=>exact⟨0,Nat.zero_le _,rfl,rfl,Y.out,Z.out⟩
 case round =>
  obtain⟨k,hk,rfl,rfl,d⟩:=hrel;clear Y Z;obtain⟨n0,n1⟩:=q.out k
  by_cases K:k<W.length
  ·obtain⟨x,r,_⟩:=drop_at K;obtain⟨H,L,o⟩:=q2Y v h f r;obtain⟨V,n3⟩:=q.out (k+1);have M:=F x (by obtain⟨h1,h2⟩:=List.getElem?_eq_some_iff.1 r;exact h2 ▸ List.getElem_mem h1)
   obtain⟨g,rfl,N,a2,s⟩:=d.out.1.at0 (by rw[List.length_append,List.length_drop];omega)
   obtain⟨c2,c3,c4,c5⟩:=s k x L;have m:(slW v h f (W.take k) ++ W.drop k).length=W.length:=by unfold slW;rw[List.length_append,List.length_map,<- List.length_append,List.take_append_drop]
   have j:=J6 L;have b:=J6 H;have t:=d.out.1.cap;rw[m]at t;clear s G H L r m;generalize slW v h f (W.take k) ++ W.drop k=Wk at *;generalize u:slW v h f (W.take (k+1)) ++ W.drop (k+1)=Wk1 at *;have z:=J6 u;clear u
   by_cases B:x.v=v/\h<=x.hei
   ·have a:q1V v h x=true:=by simp[q1V,B.1,B.2]
    obtain⟨D,E⟩:=q6w (f:=f) a;obtain⟨p0,p1,p2⟩:=q5E M U;rw[D]at b;rw[E]at o;have hP:=z9O x.amt f;rw[p0]at hP;obtain⟨P,a3⟩:=B;rw[P]at c2;generalize ptN x.amt f=pn at *;have a4:wrap64 (x.amt - pn)=x.amt - pn:=z0a (by omega) (by omega)
    rw[o]at V n3;have l:=J6 o;generalize slN v h f (W.take k)=sk at *;have Q:wrap64 (sk+pn)=sk+pn:=z0a (by omega) (by omega)
    clear a D E p0 o q
    go_upto_region 10 with (go_at_call 164;refine (hP _).mono ?_;rintro e w2⟨rfl,h2⟩)
    have p:Hid (z1k w.heap.size w2 (some ⟨g,0,none⟩) C Wk/\Bl w w2):=⟨d.out.1.over h2,zbt d.out.2 h2⟩;obtain⟨g',R,_,a0,n⟩:=p.out.1.at0 (by have:=(List.getElem?_eq_some_iff.1 j.out).1;omega)
    cases R;obtain⟨a5,a6,a7,a8⟩:=n k x j.out;clear n h2 c2 c3 c4 c5 d;go_wp2;refine⟨⟨k+1,by omega,by go_num,?_,?_⟩,by simp[intOf];omega⟩
    ·first | rw[l.out] | (rw[l.out];exact congrArg _ Q)
    ·rw[z.out,b.out];exact⟨p.out.1.amt j.out _,p.out.2.setCell N _⟩
   ·have a:q1V v h x=false:=by
     simp only[q1V,Bool.and_eq_false_iff,decide_eq_false_iff_not]
     by_cases h1:x.v=v
     ·exact .inr (fun h2=>B ⟨h1,h2⟩)
     ·exact .inl h1
    obtain⟨D,E⟩:=q4q (f:=f) a;rw[D]at b;rw[E]at o;have l:=J6 o;have S:Hid (Wk1=Wk):=by show Wk1=Wk;rw[b.out];exact z1U j.out
    clear a D E o q b;go_wp2
    all_goals first
     | (exact⟨⟨k+1,by omega,by go_num,by rw[l.out,Int.add_zero],by rw[z.out,S.out];exact d.out⟩,by simp[intOf];omega⟩)
     | (exfalso;exact B ⟨by first | assumption | omega,by omega⟩)
  ·obtain rfl:k=W.length:=by omega
   rw[List.take_length,List.drop_length,List.append_nil]at d;rw[List.take_length];clear G q;go_wp2;refine bodyPost_ret (v:=.tuple #[J1 A W.length C,J I (slN v h f W),J I 0]) (by simp[results,results165]) rfl ⟨A,C,by rw[HL.out],d.out.1,d.out.2⟩
theorem q1P(s:St)(ao:Option Addr)(sb so c v:Nat)(h f:Int)(w:World)(hW:z1R w ao sb so s.W)(R:z0j s=true)(j:v<6)(S:0<=f/\f<=1000) :
  Calls prog 150 #[J4 (stC s (J1 ao s.W.length c)),J I (v:Int),J I h,J I f] w fun e w'=>∃ A C,e=.returned (.tuple #[J4 (stC (z0Q s v h f) (J1 A (z0Q s v h f).W.length C)),J I (ptN (s.V v).tok f+slN v h f s.W),J I 0])/\z1k w.heap.size w' A C (z0Q s v h f).W/\Bl w w':=by
 have T:=(SAt.new w (stC s (J1 ao s.W.length c))).alloc (J5 Z63 32);have RR:=SAt.new2 w (J5 (stC s (J1 ao s.W.length c)) 32) Z63;have HB:Hid (Bl w ((w.alloc (J5 (stC s (J1 ao s.W.length c)) 32)).alloc (J5 Z63 32))):=(znw w _).alloc (by simp) _
 have HW:=J6 hW;have b4:=z1X R j;have b5:(v:Int)<6:=by omega
 have b6:(0:Int)<=(v:Int):=by omega
 obtain⟨n1,n2,n3,n4,n5,n6,n7,n8,n9,p,q⟩:=z2H R j h S;obtain⟨b0,-⟩:=z3A R j h S;have hP:=z9O (s.V v).tok f;have t:=fun w hw=>z6b ao s.W c sb so v h f w hw S p n9 q;have k:=fun w=>q6b s.b (ptN (s.V v).tok f) (slN v h f s.W) w;rw[b0]at k;rw[n1]at hP;have eS:z0Q s v h f={ s with b:=(z0Y s.b (ptN (s.V v).tok f) (slN v h f s.W)).1,V:=z2a s.V v (z3H (s.V v) (ptN (s.V v).tok f) (slN v h f s.W)),W:=slW v h f s.W }:=rfl
 generalize (z0Y s.b (ptN (s.V v).tok f) (slN v h f s.W)).1=B at *;have u:(z0Q s v h f).W=slW v h f s.W:=rfl;generalize z0Q s v h f=r at *;generalize ptN (s.V v).tok f=pb at *;generalize slN v h f s.W=pw at *;rw[u];generalize slW v h f s.W=Ws at *;obtain⟨b7,b9⟩:=n2;obtain⟨c4,c5⟩:=n3;obtain⟨c6,c7⟩:=n5;have c8:wrap64 (pb+pw)=pb+pw:=z0a (by omega) (by omega)
 have a0:=J6 eS;clear hW S R n1 n9 p q b0 eS u
 go_enter func150,ntmps150
 go_upto_region 1 with fail
 change Code.wp prog _ _ _ ((w.alloc (J5 (stC s (J1 ao s.W.length c)) 32)).alloc (J5 Z63 32));generalize (w.alloc (J5 (stC s (J1 ao s.W.length c)) 32)).alloc (J5 Z63 32)=w0 at *
 go_upto_region 2 with (go_at_call 144;refine (z1T s ao sb so c w.heap.size v _ T (by exact HW.out.over HB.out)).mono ?_;rintro e w1⟨rfl,h1⟩)
 have x:=J6 (zbt HB.out h1);have y:=T.later h1 T.lt;have U:=RR.later h1 RR.lt;clear T RR h1 HB;have c0:=(y.val v j).1;have X:=(z0g y).2.2.2.2.2.2.2.1;have c9:w.heap.size+1<w1.heap.size:=U.lt;have a3:w.heap.size<w1.heap.size:=by omega
 go_upto_region 14 with (first
  | (go_at_call 164;refine (hP _).mono ?_;rintro e w2⟨rfl,h2⟩;have l:=J6 (x.out.trans (h2.mono (by omega)));have z:=y.later h2 y.lt;have Y:=U.later h2 U.lt;have d0:=Y.lt;clear X;have X:=(z0g z).2.2.2.2.2.2.2.1;have a4:=z.lt;clear h2)
  | (go_at_call 165;refine (t _ (by exact HW.out.over l.out)).mono ?_;rintro e w3⟨A,C,rfl,D,h3⟩;have E:=J6 (l.out.trans (h3.mono (by omega)));have F:=z.later h3 z.lt;have Z:=Y.later h3 Y.lt;have G:=J6 D;have d1:=Z.lt;have a5:=F.lt;obtain⟨x0,x1,x2,x3,x4,x5,x6,_,_⟩:=z0g F;clear h3 D)
  | (go_at_call 166;refine (k _).mono ?_;rintro e m⟨rfl,H⟩;have K:=J6 (E.out.trans (H.mono (by omega)));have S4:=F.later H F.lt;have R4:=Z.later H Z.lt;have L:=J6 (G.out.over H);have d2:=R4.lt;clear H x0 x1 x2 x3 x4 x5 x6))
 have B5:BAt (m.alloc (J5 #[J I B.f0,J I B.f1,J I B.f2,J I B.f3,J I B.bo,J I B.wa,J I B.bu] 24)) m.heap.size B.f0 B.f1 B.f2 B.f3 B.bo B.wa B.bu:=heap_alloc_new _ _;have M:=S4.alloc (J5 #[J I B.f0,J I B.f1,J I B.f2,J I B.f3,J I B.bo,J I B.wa,J I B.bu] 24);have R5:=R4.alloc (J5 #[J I B.f0,J I B.f1,J I B.f2,J I B.f3,J I B.bo,J I B.wa,J I B.bu] 24);have N:=J6 (K.out.alloc (by omega) (J5 #[J I B.f0,J I B.f1,J I B.f2,J I B.f3,J I B.bo,J I B.wa,J I B.bu] 24))
 have n:=J6 (L.out.over (znw m (J5 #[J I B.f0,J I B.f1,J I B.f2,J I B.f3,J I B.bo,J I B.wa,J I B.bu] 24)));generalize m.alloc (J5 #[J I B.f0,J I B.f1,J I B.f2,J I B.f3,J I B.bo,J I B.wa,J I B.bu] 24)=w5 at *;clear y U x z Y l F Z E S4 R4 K G L hP t k;have d3:m.heap.size<w5.heap.size:=B5.lt;have a6:w.heap.size<w5.heap.size:=by omega
 have c0:=(M.val v j).1;have c2:=(M.val v j).2.2.1;have f0:=M.free (7+v * 5)
 go_upto_region 16 with fail
 have o:=M.set (7+v * 5) (J I ((s.V v).tok - pb));rw[z9u _ _ v j]at o;have P:=J6 ((But.refl w.heap.size w5).set (7+v * 5) (J I ((s.V v).tok - pb)));generalize w5.setCell ⟨w.heap.size,7+v * 5,none⟩ (J I ((s.V v).tok - pb))=w6 at *;clear c0 c2 f0;have c2:=(o.val v j).2.2.1;simp only[z3k]at c2;have f0:=o.free (7+v * 5+2);have a7:w.heap.size<w6.heap.size:=o.lt
 go_upto_region 17 with fail
 have d:=o.set (7+v * 5+2) (J I ((s.V v).lost+(pb+pw)));rw[z9Q _ _ v j]at d;have g:=J6 (P.out.set (7+v * 5+2) (J I ((s.V v).lost+(pb+pw))));generalize w6.setCell ⟨w.heap.size,7+v * 5+2,none⟩ (J I ((s.V v).lost+(pb+pw)))=w7 at *;have a8:w.heap.size<w7.heap.size:=d.lt;have B7:BAt w7 m.heap.size B.f0 B.f1 B.f2 B.f3 B.bo B.wa B.bu:=(g.out.block _ (by omega)).trans B5
 have a9:=B7.lt;obtain⟨x0,x1,x2,x3,x4,x5,x6,X,_⟩:=z0g d;obtain⟨y0,y1,y2,y3,y4,y5,y6⟩:=B7.cells;have g0:=d.free 0;have g1:=d.free 1;have g2:=d.free 2;have g3:=d.free 3;have g4:=d.free 4;have g5:=d.free 5;have g6:=d.free 6;have a1:=d.free 61;have d4:m.heap.size≠w.heap.size:=by omega
 clear c2 f0 o P
 go_upto_region 18 with fail
 change Code.wp prog _ _ _ ((z3F w7 w.heap.size B).setCell ⟨w.heap.size,61,none⟩ (J1 A Ws.length C));have a:Hid (But w.heap.size w5 ((z3F w7 w.heap.size B).setCell ⟨w.heap.size,61,none⟩ (J1 A Ws.length C))):=(((((((g.out.set 0 _).set 1 _).set 2 _).set 3 _).set 4 _).set 5 _).set 6 _).set 61 _;have S8:=(z4a d B).set 61 (J1 A Ws.length C);rw[z6G]at S8;have R8:=a.out.z0I (by omega) R5
 have Q:Hid (z1k w2.heap.size ((z3F w7 w.heap.size B).setCell ⟨w.heap.size,61,none⟩ (J1 A Ws.length C)) A C Ws):=z0n n.out fun k' hk=>a.out.block _ (by have:=(World.ownsRow.lt n.out k' hk).1;omega)
 have a2:=J6 (N.out.trans (a.out.below (Nat.le_refl _)));generalize (z3F w7 w.heap.size B).setCell ⟨w.heap.size,61,none⟩ (J1 A Ws.length C)=w8 at *;clear x0 x1 x2 x3 x4 x5 x6 X y0 y1 y2 y3 y4 y5 y6 g0 g1 g2 g3 g4 g5 g6 a1 d B7 B5 g a R5 N n M
 have S9:SAt w8 w.heap.size (stC r (J1 A Ws.length C)):=by
  have e:stC r (J1 A Ws.length C)=stC { ({ s with V:=z2a (z2a s.V v { s.V v with tok:=(s.V v).tok - pb }) v { z2a s.V v { s.V v with tok:=(s.V v).tok - pb } v with lost:=(s.V v).lost+(pb+pw) } }:St) with b:=B } (J1 A Ws.length C):=by
   rw[a0.out,z3k]
   have hV:z2a (z2a s.V v { s.V v with tok:=(s.V v).tok - pb }) v { s.V v with tok:=(s.V v).tok - pb,lost:=(s.V v).lost+(pb+pw) }=z2a s.V v (z3H (s.V v) pb pw):=by
    funext i
    unfold z2a z3H
    split <;> rfl
   rw[hV];rfl
  rw[e];exact S8
 clear S8;apply wp_region_lit;refine wpList_load_mid rfl 32 _ rfl _ 0 rfl _ _ S9.range underlying32 rfl (by rw[z0l];rfl) ?_
 refine z1O rfl _ rfl ?_;refine wpList_store_mid rfl 32 _ _ rfl _ 0 (stC r (J1 A Ws.length C)) rfl rfl (R8.there 0 _ (by rw[z0p,z0d];omega)) (by rw[z0l];rfl) (z0q _ _ _ _) ?_
 go_wp2;exact z2K results150 R8 rfl r _ _ _ _ ⟨A,C,rfl,z0U (z0n Q.out fun k' hk=>z0f (by have:=(World.ownsRow.lt Q.out k' hk).1;omega) _ _ _) (by omega),z0b (by omega) _ _ _ a2.out⟩ _ rfl rfl rfl rfl
end
namespace Ra
open Go.RowKit
theorem j1s(n:Int)(w:World):Calls prog 138 #[J I n] w fun e w'=>e=.returned (J3 (inB n))/\w'=w:=by
 by_cases h0:0<=n
 ·by_cases h1:n<=1125899906842624
  ·rw[z5o h0 h1]
   go_enter func138,ntmps138
   go_wp2;go_ret;exact⟨rfl,rfl⟩
  ·rw[z9L h1]
   go_enter func138,ntmps138
   go_wp2;go_ret;exact⟨rfl,rfl⟩
 ·rw[q2k h0]
  go_enter func138,ntmps138
  go_wp2;go_ret;exact⟨rfl,rfl⟩
theorem q9H(n f:Int)(w:World):Calls prog 141 #[J I n,J I f] w fun e w'=>e=.returned (.tuple #[J I (ptN n f),J I (ptE n f)])/\Bl w w':=by
 have d:=j1s n
 by_cases a:inB n=true
 ·obtain⟨h,i⟩:=z8A.1 a
  by_cases f0:f<0
  ·obtain⟨b,c⟩:=z6y (n:=n) (f:=f) (by omega)
   rw[b,c];rw[a]at d;clear b c a
   go_enter func141,ntmps141
   go_wp2_with (go_at_call 138;refine (d _).mono ?_;rintro e w'⟨rfl,rfl⟩)
   go_ret2;exact⟨rfl,⟨rfl,rfl,rfl,Nat.le_refl _,fun _ _=>rfl⟩⟩
  ·by_cases f1:1000<f
   ·obtain⟨b,c⟩:=z6y (n:=n) (f:=f) (by omega)
    rw[b,c];rw[a]at d;clear b c a
    go_enter func141,ntmps141
    go_wp2_with (go_at_call 138;refine (d _).mono ?_;rintro e w'⟨rfl,rfl⟩)
    go_ret2;exact⟨rfl,⟨rfl,rfl,rfl,Nat.le_refl _,fun _ _=>rfl⟩⟩
   ·obtain⟨b,c⟩:=z9t (n:=n) (f:=f) ⟨a,by omega,by omega⟩
    rw[b,c];rw[a]at d;clear b c a
    go_enter func141,ntmps141
    go_wp2_with (go_at_call 138;refine (d _).mono ?_;rintro e w'⟨rfl,rfl⟩)
    rw[q5n h i f0 f1];go_ret2;exact⟨rfl,⟨rfl,rfl,rfl,Nat.le_refl _,fun _ _=>rfl⟩⟩
 ·obtain⟨b,c⟩:=z6y (n:=n) (f:=f) (by simp[a])
  rw[b,c];have g:inB n=false:=by simpa using a
  rw[g]at d;clear b c a g
  go_enter func141,ntmps141
  go_wp2_with (go_at_call 138;refine (d _).mono ?_;rintro e w'⟨rfl,rfl⟩)
  go_ret2;exact⟨rfl,⟨rfl,rfl,rfl,Nat.le_refl _,fun _ _=>rfl⟩⟩
end Ra
end Go.Proofs.YtjghbciepinofaaGreat
