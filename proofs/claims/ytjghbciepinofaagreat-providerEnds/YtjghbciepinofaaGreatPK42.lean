/- Parts of the proof. -/
import Derived.Test.YtjghbciepinofaaGreatPL
import Derived.Test.YtjghbciepinofaaGreatPK30
import Derived.Test.YtjghbciepinofaaGreatPK33
import Derived.Test.YtjghbciepinofaaGreatPK35
set_option maxRecDepth 100000
set_option maxHeartbeats 16000000
namespace Go.Proofs.YtjghbciepinofaaGreat
open Go.Proofs.Tryz
open Value renaming int->J,slice->J1,pointer->J2,bool->J3,agg->J4
open IntKind renaming i64->I
open Obj renaming cells->J5
namespace Pv
open Go.RowKit
def q8N(x:Pkt):Prop:=(x.k=2∨x.k=3∨x.k=4)/\0<=x.v/\x.v<6
structure RQu(P:Nat->Prop)(w1:World)(g:Nat)(r:Pr)(wl:World):Prop where
 st:∃ (v:PrV) (Q:Nat->Prop) (z:List (Value×Value)),CAt 47 wl g (prC r v)/\z2N Q wl r v/\(∀ b,Q b->New P w1 0 b)/\¬ Q g/\(∀ b,v.q.ownBlock=some b->¬ Q b)/\z.length=r.q.length/\wl.ownsRow w1.heap.size 79 7 v.q r.q.length (quL r.q z)/\∀ (i:Nat) (x:Int×Pkt) (y:Value×Value),r.q[i]?=some x->z[i]?=some y->Rep P w1 y.1 2 16 (pwC x.2.S)/\Rep P w1 y.2 1 8 (inC x.2.D)
 A:Alt g w1 wl
 inv:q0R r
theorem q8O(p:Pr)(v:PrV)(l:List (Int×Pkt))(x:Value):(prC p v).setIfInBounds 96 x=prC { p with q:=l } { v with q:=x }:=rfl
theorem z8d{w1 w8 w9:World}{g n:Nat}{cs:Array Value}{lv:Value}{xs:List Value}{ob:Obj}(hgw:g<w1.heap.size)(C8:CAt 47 w8 g cs)(O8:w8.ownsRow w1.heap.size 79 7 lv n xs)(hg:(w8.alloc ob).grownBy w9 lv.ownBlock):CAt 47 w9 g cs:=by
 have bA:Bl w8 (w8.alloc ob):=znw w8 _;exact (hg.block g (Nat.lt_of_lt_of_le C8.lt bA.size) (fun e=>by have:=(World.ownsRow.lt O8 g e.symm).1;omega)).trans (C8.over bA)
theorem RQu.wait{P Q:Nat->Prop}{w1 w8 w9:World}{g:Nat}{r:Pr}{v:PrV}{z:List (Value×Value)}{x:Int×Pkt}{y:Value×Value}{ob:Obj}{v':Value}(hgw:g<w1.heap.size)
  (C8:CAt 47 w8 g (prC r v)) (P8:z2N Q w8 r v) (hq1:∀ b,Q b->New P w1 0 b) (hq2:¬ Q g) (hq4:∀ b,v.q.ownBlock=some b->¬ Q b) (hl:z.length=r.q.length) (O8:w8.ownsRow w1.heap.size 79 7 v.q r.q.length (quL r.q z)) (hi:∀ (i:Nat) (x:Int×Pkt) (y:Value×Value),r.q[i]?=some x->z[i]?=some y->Rep P w1 y.1 2 16 (pwC x.2.S)/\Rep P w1 y.2 1 8 (inC x.2.D)) (A8:Alt g w1 w8) (I8:q0R r)
  (hin:Rep P w1 y.1 2 16 (pwC x.2.S)/\Rep P w1 y.2 1 8 (inC x.2.D)) (ho:w9.ownsRow w1.heap.size 79 7 v' (r.q.length+1) (quL r.q z ++ akL x y)) (hg:(w8.alloc ob).grownBy w9 v.q.ownBlock) (hat:v'.ownBlock=v.q.ownBlock∨v'.ownBlock=some (w8.alloc ob).heap.size) :
  RQu P w1 g { r with q:=r.q ++ [x] } (w9.setCell ⟨g,96,none⟩ v'):=by
 have bA:Bl w8 (w8.alloc ob):=znw w8 _;have hsz:=bA.size;have hown:∀ b,v.q.ownBlock=some b->w1.heap.size<=b/\b<w8.heap.size:=fun b e=>World.ownsRow.lt O8 b e;have C9:CAt 47 w9 g (prC r v):=(hg.block g (Nat.lt_of_lt_of_le C8.lt hsz) (fun e=>by have:=(hown g e.symm).1;omega)).trans (C8.over bA)
 have hne:∀ b,b<w8.heap.size->Q b->some b≠v'.ownBlock:=fun b hb hq e=>by
  rcases hat with h | h
  ·exact hq4 b (by rw[<- h,e]) hq
  ·rw[h]at e;cases e;omega
 have P9:z2N (fun b=>Q b/\some b≠v'.ownBlock) w9 r v:=((P8.mono (P':=fun b=>(Q b/\some b≠v'.ownBlock)) fun b hl' hb=>⟨hb,hne b hl' hb⟩).over bA).keep fun b hb hlt=>hg.block b hlt fun e=>hq4 b e.symm hb.1;have hqg:¬ (fun b=>Q b/\some b≠v'.ownBlock) g:=fun h=>hq2 h.1;have C10:=C9.set 96 v';rw[q8O r v (r.q ++ [x]) v']at C10;have P10:=P9.put hqg 96 v'
 have hog:∀ b,v'.ownBlock=some b->b≠g:=fun b e hbg=>by
  have:=(World.ownsRow.lt ho b e).1;omega
 have O10:=Ln.z0n ho (w':=w9.setCell ⟨g,96,none⟩ v') fun b e=>Below.heap_setCell w9 ⟨g,96,none⟩ v' b (show b≠g from hog b e);have A9:Alt g w1 w9:=⟨hg.os.trans A8.os,hg.tape.trans A8.tape,hg.output.trans A8.output,Nat.le_trans A8.size (Nat.le_trans hsz hg.size),fun k hk hn=>((hg.block k (by have:=A8.size;omega) (fun e=>by have:=(hown k e.symm).1;omega)).trans (bA.block k (by have:=A8.size;omega))).trans (A8.block k hk hn)⟩
 refine⟨⟨{ v with q:=v' },_,z ++ [y],C10,⟨P10.ws,P10.set,P10.lk,(by obtain⟨A,C,e⟩:=Ln.z2B ho;exact⟨A,_,C,e⟩)⟩,fun b h=>hq1 b h.1,hqg,fun b e h=>h.2 e.symm,by simp[hl],?_,fun i a b ha hb=>?_⟩,A9.put 96 v',I8⟩
 ·rw[z7d r.q z x y hl,List.length_append];exact O10
 ·by_cases h:i<r.q.length
  ·rw[List.getElem?_append_left h]at ha;rw[List.getElem?_append_left (by rw[hl];exact h)]at hb
   exact hi i a b ha hb
  ·rw[List.getElem?_append_right (by omega)]at ha
   rw[List.getElem?_append_right (by rw[hl];omega),hl]at hb
   rcases Nat.eq_zero_or_pos (i - r.q.length) with h0 | h0
   ·rw[h0]at ha hb
    simp at ha hb
    subst ha hb;exact hin
   ·rw[List.getElem?_eq_none (by simp;omega)]at ha
    cases ha
theorem z9K{P:Nat->Prop}{w:World}{g j:Nat}(hP:¬ P g)(hg:g<w.heap.size):¬ New P w j g:=fun h=>by
 rcases h with⟨h,_⟩ | h
 ·exact hP h
 ·omega
theorem RQu.start{P:Nat->Prop}{w1:World}{g:Nat}{p:Pr}{v:PrV}(hC:CAt 47 w1 g (prC { p with q:=[] } v))(hvq:v.q=J1 none 0 0)(hp:z2N P w1 { p with q:=[] } v)(hg:¬ P g)(hi:q0R p):RQu P w1 g { p with q:=[] } w1:=by
 refine⟨⟨v,fun b=>P b/\b<w1.heap.size,[],hC,hp.mono fun b hl h=>⟨h,hl⟩,fun b h=>.inl h,fun h=>hg h.1,fun b e=>?_,rfl,?_,fun i x y h=>?_⟩,Alt.of (Below.refl _ _),hi⟩
 ·rw[hvq]at e;cases e
 ·rw[hvq];exact World.ownsRow_nil _ _ _ _
 ·cases h
noncomputable def rqC:Code:=z8O [1,1,1,1,1,1,1,1,0] (f17.body.getD .skip)
attribute [local go_sem ↓] z0O z1c z0J z0L
set_option maxRecDepth 1000000 in
theorem z8o(p:Pr)(P:Nat->Prop)(w1:World)(g:Nat)(q:List (Int×Pkt))(zq:List (Value×Value))(Aq:Option Addr)(Cq:Nat)(hgw:g<w1.heap.size)(hg:¬ P g)(h0:RQu P w1 g { p with q:=[] } w1)(hl:zq.length=q.length)(hr:Rep P w1 (J1 Aq q.length Cq) 7 80 (quL q zq))(hi:∀ (i:Nat) (x:Int×Pkt) (y:Value×Value),q[i]?=some x->zq[i]?=some y->Rep P w1 y.1 2 16 (pwC x.2.S)/\Rep P w1 y.2 1 8 (inC x.2.D))(hok:∀ a∈q,(0<=a.1/\a.1<2)/\q8N a.2)(h88:q.length * 88<=140737488351232)(v0 v1 v2 v3 v4 v5 v6 v9 v10 v11 v12 v13 v14 v15 v16 v17 v18 v19 v20 v21 v22 v23 v24 v25 v26 v27 v28 v29 v30 v31 v32 v33 v34 v35 v36 v37 v38 v39 v40 v41 v42 v43 v44 v45 v46 v47 v48 v49 v50 v51 v52 v53 v54 v55 v56 v57 v58 v59 v60 v61 v62 v63 v64 v65 v66 v67 v68 v69 v70 v71 v72 v73 v74 v75 v76 v77 v78 v79 v80 v81 v82 v83 v84 v85 v86 v87 v88 v89 v90 v91 v92 v93 v94 v95 v96 v97 v98 v99 v100 v101 v102 v103 v104 v105 v106 v107 v108 v109 v110 v111 v112 v113 v114 v115 v116 v117 v118 v119 v120 v121 v122 v123 v124 v125 v126 v127 v128 v129 v130 v131 v132 v133 v134 v135 v136 v137 v138 v139 v140 v141 v142 v143 v144 v145 v146 v147 v148 v149 v150 v151 v152 v153 v154 v155 v156 v157 v158 v159 v160 v161 v162 v163 v164 v165 v166 v167 v168 v169 v170 v171 v172 v173 v174 v175 v176 v177 v178 v179 v180 v181 v182 v183 v184 v185 v186 v187 v188:Value){Q:Exit->Act->World->Prop}
  (hQ:∀ (t9 t10 t11 t12 t13 t14 t55 t56 t57 t58 t59 t60 t61 t62 t63 t64 t65 t66 t67 t68 t69 t70 t71 t72 t73 t74 t75 t76 t77 t78 t79 t80 t81 t82 t83 t84 t85 t86 t87 t88 t89 t90 t91 t92 t93:Value) (wz:World),RQu P w1 g (q.foldl z1H { p with q:=[] }) wz->Q .normal ⟨List.toArray (v0 :: v1 :: v2 :: v3 :: v4 :: v5 :: v6 :: (J2 (some ⟨g,0,none⟩)) :: (J1 Aq q.length Cq) :: t9 :: t10 :: t11 :: t12 :: t13 :: t14 :: v15 :: v16 :: v17 :: v18 :: v19 :: v20 :: v21 :: v22 :: v23 :: v24 :: v25 :: v26 :: v27 :: v28 :: v29 :: v30 :: v31 :: v32 :: v33 :: v34 :: v35 :: v36 :: v37 :: v38 :: v39 :: v40 :: v41 :: v42 :: v43 :: v44 :: v45 :: v46 :: v47 :: v48 :: v49 :: v50 :: v51 :: v52 :: v53 :: v54 :: t55 :: t56 :: t57 :: t58 :: t59 :: t60 :: t61 :: t62 :: t63 :: t64 :: t65 :: t66 :: t67 :: t68 :: t69 :: t70 :: t71 :: t72 :: t73 :: t74 :: t75 :: t76 :: t77 :: t78 :: t79 :: t80 :: t81 :: t82 :: t83 :: t84 :: t85 :: t86 :: t87 :: t88 :: t89 :: t90 :: t91 :: t92 :: t93 :: v94 :: v95 :: v96 :: v97 :: v98 :: v99 :: v100 :: v101 :: v102 :: v103 :: v104 :: v105 :: v106 :: v107 :: v108 :: v109 :: v110 :: v111 :: v112 :: v113 :: v114 :: v115 :: v116 :: v117 :: v118 :: v119 :: v120 :: v121 :: v122 :: v123 :: v124 :: v125 :: v126 :: v127 :: v128 :: v129 :: v130 :: v131 :: v132 :: v133 :: v134 :: v135 :: v136 :: v137 :: v138 :: v139 :: v140 :: v141 :: v142 :: v143 :: v144 :: v145 :: v146 :: v147 :: v148 :: v149 :: v150 :: v151 :: v152 :: v153 :: v154 :: v155 :: v156 :: v157 :: v158 :: v159 :: v160 :: v161 :: v162 :: v163 :: v164 :: v165 :: v166 :: v167 :: v168 :: v169 :: v170 :: v171 :: v172 :: v173 :: v174 :: v175 :: v176 :: v177 :: v178 :: v179 :: v180 :: v181 :: v182 :: v183 :: v184 :: v185 :: v186 :: v187 :: v188 :: []),[]⟩ wz) :
  Code.wp prog rqC Q ⟨List.toArray (v0 :: v1 :: v2 :: v3 :: v4 :: v5 :: v6 :: (J2 (some ⟨g,0,none⟩)) :: (J1 Aq q.length Cq) :: v9 :: v10 :: v11 :: v12 :: v13 :: v14 :: v15 :: v16 :: v17 :: v18 :: v19 :: v20 :: v21 :: v22 :: v23 :: v24 :: v25 :: v26 :: v27 :: v28 :: v29 :: v30 :: v31 :: v32 :: v33 :: v34 :: v35 :: v36 :: v37 :: v38 :: v39 :: v40 :: v41 :: v42 :: v43 :: v44 :: v45 :: v46 :: v47 :: v48 :: v49 :: v50 :: v51 :: v52 :: v53 :: v54 :: v55 :: v56 :: v57 :: v58 :: v59 :: v60 :: v61 :: v62 :: v63 :: v64 :: v65 :: v66 :: v67 :: v68 :: v69 :: v70 :: v71 :: v72 :: v73 :: v74 :: v75 :: v76 :: v77 :: v78 :: v79 :: v80 :: v81 :: v82 :: v83 :: v84 :: v85 :: v86 :: v87 :: v88 :: v89 :: v90 :: v91 :: v92 :: v93 :: v94 :: v95 :: v96 :: v97 :: v98 :: v99 :: v100 :: v101 :: v102 :: v103 :: v104 :: v105 :: v106 :: v107 :: v108 :: v109 :: v110 :: v111 :: v112 :: v113 :: v114 :: v115 :: v116 :: v117 :: v118 :: v119 :: v120 :: v121 :: v122 :: v123 :: v124 :: v125 :: v126 :: v127 :: v128 :: v129 :: v130 :: v131 :: v132 :: v133 :: v134 :: v135 :: v136 :: v137 :: v138 :: v139 :: v140 :: v141 :: v142 :: v143 :: v144 :: v145 :: v146 :: v147 :: v148 :: v149 :: v150 :: v151 :: v152 :: v153 :: v154 :: v155 :: v156 :: v157 :: v158 :: v159 :: v160 :: v161 :: v162 :: v163 :: v164 :: v165 :: v166 :: v167 :: v168 :: v169 :: v170 :: v171 :: v172 :: v173 :: v174 :: v175 :: v176 :: v177 :: v178 :: v179 :: v180 :: v181 :: v182 :: v183 :: v184 :: v185 :: v186 :: v187 :: v188 :: []),[]⟩ w1:=by
 obtain⟨i0,hi0,hz0,hz1,hz2⟩:=info_parts q3W;have HK:=J6 hQ;clear hQ
 conv=>arg 2;whnf
 obtain⟨Aq',Cq',eq,-,-,hcq,-⟩:=hr.open (z1h _ _ hl) (by decide)
 cases eq;have HCQ:=J6 hcq;have HZ:=J6 (show _/\_/\_ from⟨hl,hi,hok⟩);have H0:=J6 h0;have hqlen:q.length<=1599289640354:=by omega
 clear hcq hl hi hok h0 hr
 go_upto_region 10 with fail
 go_loopw [57] (fun i wl=>∃ (k:Nat),k<=q.length/\i=.int .i64 (k:Int)/\Hid (RQu P w1 g ((q.take k).foldl z1H { p with q:=[] }) wl/\((q.take k).foldl z1H { p with q:=[] }).q.length<=k)) (fun i _=>q.length - (intOf i).toNat)
 case atStart=>exact⟨0,Nat.zero_le _,rfl,H0.out,Nat.le_refl _⟩
 case round =>
  obtain⟨k,hk,rfl,HR⟩:=hrel
  by_cases hlt:k<q.length
  rotate_left
  ·obtain rfl:k=q.length:=by omega
   have hz:=HR.out.1;rw[List.take_length]at hz;have HZZ:=J6 hz;clear hz HR;go_wp2;exact HK.out _ _ _ _ _ _ _ _ _ _ _ _ _ _ _ _ _ _ _ _ _ _ _ _ _ _ _ _ _ _ _ _ _ _ _ _ _ _ _ _ _ _ _ _ _ _ HZZ.out
  have hkI:(k:Int)<(q.length:Int):=by omega
  have hk0:(0:Int)<=(k:Int):=by omega
  have hx:q[k]?=some q[k]:=List.getElem?_eq_getElem hlt;have hzk:k<zq.length:=by rw[HZ.out.1];exact hlt
  have hy:zq[k]?=some zq[k]:=List.getElem?_eq_getElem hzk;have hin:=HZ.out.2.1 k _ _ hx hy;have hoka:=HZ.out.2.2 _ (List.getElem_mem hlt);have hst:(q.take (k+1)).foldl z1H { p with q:=[] }=z1H ((q.take k).foldl z1H { p with q:=[] }) q[k]:=by rw[List.take_succ_eq_append_getElem hlt,List.foldl_append];rfl
  have HST:=J6 hst;generalize (q.take k).foldl z1H { p with q:=[] }=r at *
  obtain⟨bq,oq,rfl,hPb,hbl,hcell⟩:=HCQ.out (by omega)
  have hbg:bq≠g:=fun e=>hg (e ▸ hPb)
  have hc:∀ j,j<7->∀ u,(akL q[k] zq[k])[j]?=some u->wr.cell? ⟨bq,oq+k * 7+j,none⟩=some u:=fun j hj u hu=>by
   rw[World.cell?_of_block (w:=w1) (a:=⟨bq,oq+k * 7+j,none⟩) (HR.out.1.A.block bq hbl hbg),Nat.add_assoc];exact hcell _ _ ((z2W q zq k _ _ j hx hy hj).trans hu)
  have e0:=hc 0 (by omega) _ rfl
  have e1:=hc 1 (by omega) _ rfl
  have e2:=hc 2 (by omega) _ rfl
  have e3:=hc 3 (by omega) _ rfl
  have e4:=hc 4 (by omega) _ rfl
  have e5:=hc 5 (by omega) _ rfl
  have e6:=hc 6 (by omega) _ rfl
  rw[Nat.add_zero]at e0;generalize q[k]=x at *;generalize zq[k]=y at *;obtain⟨y1,y2⟩:=y;dsimp only at hin e5 e6;obtain⟨⟨B1,n1,D1,ey1,-⟩,⟨B2,n2,D2,ey2,-⟩⟩:=id hin;subst ey1 ey2;obtain⟨x1,x2⟩:=x;dsimp only at hoka hin e0 e1 e2 e3 e4;obtain⟨m,rfl⟩:∃ m:Nat,x1=(m:Int):=⟨x1.toNat,by omega⟩
  have hm2:m<2:=by omega
  have HIN:=J6 hin;have HOK:=J6 hoka;have bA:Bl wr (wr.alloc (J5 #[.int .i64 (m:Int),.int .i64 x2.k,.int .i64 x2.i,.int .i64 x2.v,.int .i64 x2.n,J1 B1 n1 D1,J1 B2 n2 D2] 79)):=znw wr _;have K5:=CAt.new 79 wr #[.int .i64 (m:Int),.int .i64 x2.k,.int .i64 x2.i,.int .i64 x2.v,.int .i64 x2.n,J1 B1 n1 D1,J1 B2 n2 D2];clear hc hcell hx hy hin hst hbl hPb hbg hoka
  go_upto_region 13 with fail
  clear e0 e1 e2 e3 e4 e5 e6;obtain⟨w5,ew5⟩:∃ w5,w5=wr.alloc (J5 #[.int .i64 (m:Int),.int .i64 x2.k,.int .i64 x2.i,.int .i64 x2.v,.int .i64 x2.n,J1 B1 n1 D1,J1 B2 n2 D2] 79):=⟨_,rfl⟩;rw[<- ew5]at K5 bA;rw[<- ew5];clear ew5;obtain⟨⟨v5,Q5,z5,C5,P5,hq1,hq2,hq4,hzl5,O5,hi5⟩,A5,I5⟩:=HR.out.1;obtain⟨AL,CL,eL⟩:=Ln.z2B O5;have hgr:g<wr.heap.size:=C5.lt;have C6:=C5.over bA;have P6:=P5.over bA;have A6:=A5.trans (Alt.of bA);have O6:=Ln.z2j O5 bA;have c96:w5.cell? ⟨g,96,none⟩=some (J1 AL r.q.length CL):=by rw[<- eL];exact C6.cell 96
  have hz5:=bA.size;have hrl:=HR.out.2;have R6:=Rep.own (bts:=80) O6 (by omega)
  rw[eL]at R6;obtain⟨AL',CL',eL',-,-,hcl,-⟩:=R6.open (z1h _ _ hzl5) (by decide)
  cases eL';have HCL:=J6 hcl;have H6:=J6 (show _/\_/\_/\_/\_/\_/\_/\_/\_/\_/\_ from⟨C6,P6,A6,O6,K5,I5,hq1,hq2,hq4,hzl5,hi5⟩);have HEL:=J6 eL;have hr5:wr.heap.size<w5.heap.size:=K5.lt;clear C5 P5 A5 O5 C6 P6 A6 O6 K5 I5 hq1 hq2 hq4 hzl5 hi5 R6 hcl eL HR bA
  go_upto_region 14 with fail
  go_loopw [11,64] (fun b j wl=>∃ (m':Nat),m'<=r.q.length/\j=.int .i64 (m':Int)/\b=J3 (z3E (r.q.take m') (m:Int))/\Hid (Bl w5 wl)) (fun _ j _=>r.q.length - (intOf j).toNat)
  case atStart=>exact⟨0,Nat.zero_le _,rfl,rfl,Below.refl _ _⟩
  case round =>
   rename World=>wo
   obtain⟨m',hm',rfl,rfl,HB⟩:=hrel
   by_cases hml:m'<r.q.length
   ·have hmI:(m':Int)<(r.q.length:Int):=by omega
    have hm0:(0:Int)<=(m':Int):=by omega
    have hx:r.q[m']?=some r.q[m']:=List.getElem?_eq_getElem hml;have hzk':m'<z5.length:=by rw[H6.out.2.2.2.2.2.2.2.2.2.1];exact hml
    have hy:z5[m']?=some z5[m']:=List.getElem?_eq_getElem hzk';have hin:=H6.out.2.2.2.2.2.2.2.2.2.2 m' _ _ hx hy;obtain⟨bl,ol,rfl,-,hbl,hcell⟩:=HCL.out (by omega)
    have hc:∀ j,j<7->∀ u,(akL r.q[m'] z5[m'])[j]?=some u->wo.cell? ⟨bl,ol+m' * 7+j,none⟩=some u:=fun j hj u hu=>by
     rw[HB.out.cell (p:=⟨bl,ol+m' * 7+j,none⟩) hbl,Nat.add_assoc];exact hcell _ _ ((z2W r.q z5 m' _ _ j hx hy hj).trans hu)
    have e0:=hc 0 (by omega) _ rfl
    have e1:=hc 1 (by omega) _ rfl
    have e2:=hc 2 (by omega) _ rfl
    have e3:=hc 3 (by omega) _ rfl
    have e4:=hc 4 (by omega) _ rfl
    have e5:=hc 5 (by omega) _ rfl
    have e6:=hc 6 (by omega) _ rfl
    rw[Nat.add_zero]at e0;have htk:r.q.take (m'+1)=r.q.take m' ++ [r.q[m']]:=List.take_succ_eq_append_getElem hml;have HAN:Hid (z3E (r.q.take (m'+1)) (m:Int)=(z3E (r.q.take m') (m:Int) || (r.q[m'].1 == (m:Int)))):=by rw[Hid,htk,z8N]
    generalize r.q[m']=x' at *;generalize z5[m']=y' at *;obtain⟨y3,y4⟩:=y';dsimp only at hin e5 e6;obtain⟨⟨E1,l1,F1,ey1,-⟩,⟨E2,l2,F2,ey2,-⟩⟩:=id hin;subst ey1 ey2;obtain⟨x1,x3⟩:=x';dsimp only at hin e0 e1 e2 e3 e4 HAN;have kk:wo.cell? ⟨wr.heap.size,0,none⟩=some (.int .i64 (m:Int)):=(HB.out.cell (p:=⟨wr.heap.size,0,none⟩) hr5).trans (H6.out.2.2.2.2.1.cell 0);have hwo:wr.heap.size<wo.heap.size:=Nat.lt_of_lt_of_le hr5 HB.out.size;have HB2:=J6 (HB.out.alloc HB.out.size (J5 #[.int .i64 x1,.int .i64 x3.k,.int .i64 x3.i,.int .i64 x3.v,.int .i64 x3.n,J1 E1 l1 F1,J1 E2 l2 F2] 79));clear hc hcell hx hy hin htk hbl HB;generalize z3E (r.q.take m') (m:Int)=fl at *;cases fl
    ·go_wp2;go_roundw
     case rel=>exact⟨m'+1,by omega,by go_num,by rw[HAN.out,Bool.false_or],HB2⟩
     case measure=>simp[intOf];omega
    ·go_wp2;go_roundw
     case rel=>exact⟨m'+1,by omega,by go_num,by rw[HAN.out,Bool.true_or],HB2⟩
     case measure=>simp[intOf];omega
   ·obtain rfl:m'=r.q.length:=by omega
    rw[List.take_length];obtain⟨fl,hfl⟩:∃ fl,z3E r.q (m:Int)=fl:=⟨_,rfl⟩;rw[hfl];have HFL:=J6 hfl;clear hfl;have C7:=H6.out.1.over HB.out;have P7:=H6.out.2.1.over HB.out;have A7:=H6.out.2.2.1.trans (Alt.of HB.out);have O7:=Ln.z2j H6.out.2.2.2.1 HB.out;have K7:=H6.out.2.2.2.2.1.over HB.out;have HQS:=J6 H6.out.2.2.2.2.2;have H7:=J6 (show _/\_/\_/\_/\_ from⟨C7,P7,A7,O7,K7⟩);have hg7:=C7.lt;have hw7:wr.heap.size<wo.heap.size:=K7.lt;have hs7:w1.heap.size<=wo.heap.size:=A7.size;have k0:wo.cell? ⟨wr.heap.size,0,none⟩=some (.int .i64 (m:Int)):=K7.cell 0;have k1:wo.cell? ⟨wr.heap.size,0+1,none⟩=some (.int .i64 x2.k):=K7.cell 1;have k2:wo.cell? ⟨wr.heap.size,0+2,none⟩=some (.int .i64 x2.i):=K7.cell 2;have k3:wo.cell? ⟨wr.heap.size,0+3,none⟩=some (.int .i64 x2.v):=K7.cell 3;have k4:wo.cell? ⟨wr.heap.size,0+4,none⟩=some (.int .i64 x2.n):=K7.cell 4;have k5:wo.cell? ⟨wr.heap.size,0+5,none⟩=some (J1 B1 n1 D1):=K7.cell 5;have k6:wo.cell? ⟨wr.heap.size,0+6,none⟩=some (J1 B2 n2 D2):=K7.cell 6;have c96':wo.cell? ⟨g,96,none⟩=some (J1 AL r.q.length CL):=by rw[<- HEL.out];exact C7.cell 96
    have f96:=C7.free 96;clear C7 P7 A7 O7 K7 H6 HCL HB c96;cases fl
    ·
     have hsp:z1H r ((m:Int),x2)=if (z0y r m x2).2=true then (z0y r m x2).1 else { (z0y r m x2).1 with q:=r.q ++ [((m:Int),x2)] }:=by
      unfold z1H;rw[if_neg (by rw[HFL.out];simp),Int.toNat_natCast]
     have HSP:=J6 hsp;have HDF:=J6 (fun h=>z4N (p:=r) (c:=m) (x:=x2) h);have HDQ:=J6 (q6R r m x2);have HIV:=J6 (z6Q HQS.out.1 m (x:=x2) ⟨HOK.out.2.1,fun _=>HOK.out.2.2⟩);have HDL:=J6 (q3B r v5 Q5 wo m hm2 x2 (J1 B1 n1 D1) (J1 B2 n2 D2) H7.out.2.1 HQS.out.1.1 HOK.out.2.1 HOK.out.2.2.1 HOK.out.2.2.2 ⟨_,_,_,rfl⟩ ⟨_,_,_,rfl⟩);have l7:=z0t H7.out.1 (z0c _ _);clear hsp;generalize z0y r m x2=dl at *;obtain⟨r',b'⟩:=dl;dsimp only at HSP HDF HDQ HIV HDL
     go_upto_region 21 with (go_at_call 48;refine HDL.out.mono ?_;rintro e w8⟨v8,rfl,P8,hv8,hb8⟩;dsimp only at P8;clear l7 k0 k1 k2 k3 k4 k5 k6;have s8:=z0z (H7.out.1.over hb8) (z0c _ _) (z0c r' v8) P8.one;have HD8:=J6 (show _/\_/\_ from⟨P8,hv8,hb8⟩);clear P8 hv8 hb8;dsimp only)
     have hz8:=HD8.out.2.2.size;have hng:¬ New Q5 wo 3 g:=z9K HQS.out.2.2.1 hg7;have C9:=(H7.out.1.over HD8.out.2.2).z0C (ds:=prC r' v8) (by rw[z0c,z0c])
     have P9:=HD8.out.1.sets (g:=g) hng 0 (prC r' v8).toList;have A9:=(H7.out.2.2.1.trans (Alt.of HD8.out.2.2)).sets (prC r' v8).toList 0;have hown:∀ b,v5.q.ownBlock=some b->w1.heap.size<=b/\b<wo.heap.size:=fun b e=>World.ownsRow.lt H7.out.2.2.2.1 b e;have O9:=Ln.z0n (Ln.z2j H7.out.2.2.2.1 HD8.out.2.2) (w':=w8.setCells g 0 (prC r' v8).toList) fun b e=>z0f (show b≠g by have:=(hown b e).1;omega) _ _ _
     have K9:=(H7.out.2.2.2.2.over HD8.out.2.2).others (c:=g) (o:=0) (by omega) (prC r' v8).toList
     rw[<- HD8.out.2.1]at O9
     have hq9:∀ b,v8.q.ownBlock=some b->¬ New Q5 wo 3 b:=fun b e=>by
      rw[HD8.out.2.1]at e;exact z9K (HQS.out.2.2.2.1 b e) (hown b e).2
     have hq91:∀ b,New Q5 wo 3 b->New P w1 0 b:=fun b h=>by
      rcases h with⟨h,_⟩ | h
      ·exact HQS.out.2.1 b h
      ·exact .inr (by omega)
     have HEQ9:=J6 (HD8.out.2.1.trans HEL.out);have H9:=J6 (show _/\_/\_/\_/\_/\_/\_/\_ from⟨C9,P9,A9,O9,K9,hq91,hng,hq9⟩);clear C9 P9 A9 O9 K9 hown hq9 hq91 hng HD8 s8 HDL c96' f96 H7 hz8;generalize w8.setCells g 0 (prC r' v8).toList=w9 at *;cases b'
     ·have e:=HDF.out rfl;subst e;replace HSP:=J6 (HSP.out.trans (if_neg (by simp)))
      have hg9':=H9.out.1.lt;have hw9':wr.heap.size<w9.heap.size:=H9.out.2.2.2.2.1.lt;have hs9:w1.heap.size<=w9.heap.size:=H9.out.2.2.1.size;have k0:w9.cell? ⟨wr.heap.size,0,none⟩=some (.int .i64 (m:Int)):=H9.out.2.2.2.2.1.cell 0;have k1:w9.cell? ⟨wr.heap.size,0+1,none⟩=some (.int .i64 x2.k):=H9.out.2.2.2.2.1.cell 1;have k2:w9.cell? ⟨wr.heap.size,0+2,none⟩=some (.int .i64 x2.i):=H9.out.2.2.2.2.1.cell 2;have k3:w9.cell? ⟨wr.heap.size,0+3,none⟩=some (.int .i64 x2.v):=H9.out.2.2.2.2.1.cell 3;have k4:w9.cell? ⟨wr.heap.size,0+4,none⟩=some (.int .i64 x2.n):=H9.out.2.2.2.2.1.cell 4;have k5:w9.cell? ⟨wr.heap.size,0+5,none⟩=some (J1 B1 n1 D1):=H9.out.2.2.2.2.1.cell 5;have k6:w9.cell? ⟨wr.heap.size,0+6,none⟩=some (J1 B2 n2 D2):=H9.out.2.2.2.2.1.cell 6;have c96':w9.cell? ⟨g,96,none⟩=some (J1 AL r'.q.length CL):=by rw[<- HEQ9.out];exact H9.out.1.cell 96
      have f96:=H9.out.1.free 96;have ho9':=World.ownsRow.alloc H9.out.2.2.2.1 (J5 #[.int .i64 (m:Int),.int .i64 x2.k,.int .i64 x2.i,.int .i64 x2.v,.int .i64 x2.n,J1 B1 n1 D1,J1 B2 n2 D2] 79);have HO9:=J6 ho9';clear ho9'
      go_upto_region 23 with (at_builtin;refine wpList_append_own_at _ rfl _ _ 45 rfl w1.heap.size 79 i0 (J4 #[.int .i64 0,.int .i64 0,.int .i64 0,.int .i64 0,.int .i64 0,J1 none 0 0,J1 none 0 0]) 7 88 underlying45 hi0 hz0 hz1 hz2 rfl (by decide) _ _ _ rfl (by rw[<- HEQ9.out];exact HO9.out) ⟨w9.heap.size,0,none⟩ 1 1 (akL ((m:Int),x2) (J1 B1 n1 D1,J1 B2 n2 D2)) rfl rfl (z5a w9 ((m:Int),x2) (J1 B1 n1 D1,J1 B2 n2 D2) 79) (fun u hu=>by simp only[akL,List.mem_cons,List.not_mem_nil,or_false]at hu;rcases hu with rfl | rfl | rfl | rfl | rfl | rfl | rfl <;> rfl) (by unfold maxLen;omega) (by omega) (by simp;omega) ?_;intro v9 w10 ho9 hgrow _ hat;rw[<- HEQ9.out]at hgrow hat;obtain⟨A9,C9,ev9⟩:=Ln.z2B ho9;subst ev9;have X9:=z8d hgw H9.out.1 H9.out.2.2.2.1 hgrow;have c9:w10.cell? ⟨g,96,none⟩=some v8.q:=X9.cell 96;rw[HEQ9.out]at c9;have f9:=X9.free 96;have hg9:=X9.lt;have HW9:=J6 (show _/\_/\_ from⟨ho9,hgrow,hat⟩);clear ho9 hgrow hat X9 k0 k1 k2 k3 k4 k5 k6 c96' f96)
      have HN:Hid (RQu P w1 g { r' with q:=r'.q ++ [((m:Int),x2)] } (w10.setCell ⟨g,96,none⟩ (J1 A9 (r'.q.length+1) C9))):=RQu.wait hgw H9.out.1 H9.out.2.1 H9.out.2.2.2.2.2.1 H9.out.2.2.2.2.2.2.1 H9.out.2.2.2.2.2.2.2 HQS.out.2.2.2.2.1 H9.out.2.2.2.1 HQS.out.2.2.2.2.2 H9.out.2.2.1 HQS.out.1 HIN.out HW9.out.1 HW9.out.2.1 HW9.out.2.2
      clear c9 f9;go_wp2;exact⟨⟨k+1,by omega,by go_num,by rw[HST.out,HSP.out];exact⟨HN.out,by simp;omega⟩⟩,by simp[intOf];omega⟩
     ·replace HSP:=J6 (HSP.out.trans (if_pos rfl));have HN:Hid (RQu P w1 g r' w9):=⟨⟨v8,_,z5,H9.out.1,H9.out.2.1,H9.out.2.2.2.2.2.1,H9.out.2.2.2.2.2.2.1,H9.out.2.2.2.2.2.2.2,by rw[HDQ.out];exact HQS.out.2.2.2.2.1,by rw[HDQ.out];exact H9.out.2.2.2.1,by rw[HDQ.out];exact HQS.out.2.2.2.2.2⟩,H9.out.2.2.1,HIV.out⟩
      have hdq:=HDQ.out;go_wp2;exact⟨⟨k+1,by omega,by go_num,by rw[HST.out,HSP.out];exact⟨HN.out,by rw[HDQ.out];omega⟩⟩,by simp[intOf];omega⟩
    ·
     have HSP:Hid (z1H r ((m:Int),x2)={ r with q:=r.q ++ [((m:Int),x2)] }):=by
      unfold z1H;exact if_pos HFL.out
     have ho7:=World.ownsRow.alloc H7.out.2.2.2.1 (J5 #[.int .i64 (m:Int),.int .i64 x2.k,.int .i64 x2.i,.int .i64 x2.v,.int .i64 x2.n,J1 B1 n1 D1,J1 B2 n2 D2] 79);have HO7:=J6 ho7;clear ho7
     go_upto_region 23 with (at_builtin;refine wpList_append_own_at _ rfl _ _ 45 rfl w1.heap.size 79 i0 (J4 #[.int .i64 0,.int .i64 0,.int .i64 0,.int .i64 0,.int .i64 0,J1 none 0 0,J1 none 0 0]) 7 88 underlying45 hi0 hz0 hz1 hz2 rfl (by decide) _ _ _ rfl (by rw[<- HEL.out];exact HO7.out) ⟨wo.heap.size,0,none⟩ 1 1 (akL ((m:Int),x2) (J1 B1 n1 D1,J1 B2 n2 D2)) rfl rfl (z5a wo ((m:Int),x2) (J1 B1 n1 D1,J1 B2 n2 D2) 79) (fun u hu=>by simp only[akL,List.mem_cons,List.not_mem_nil,or_false]at hu;rcases hu with rfl | rfl | rfl | rfl | rfl | rfl | rfl <;> rfl) (by unfold maxLen;omega) (by omega) (by simp;omega) ?_;intro v9 w9 ho9 hgrow _ hat;rw[<- HEL.out]at hgrow hat;obtain⟨A9,C9,ev9⟩:=Ln.z2B ho9;subst ev9;have X9:=z8d hgw H7.out.1 H7.out.2.2.2.1 hgrow;have c9:w9.cell? ⟨g,96,none⟩=some v5.q:=X9.cell 96;rw[HEL.out]at c9;have f9:=X9.free 96;have hg9:=X9.lt;have HW9:=J6 (show _/\_/\_ from⟨ho9,hgrow,hat⟩);clear ho9 hgrow hat X9 k0 k1 k2 k3 k4 k5 k6 c96' f96)
     have HN:Hid (RQu P w1 g { r with q:=r.q ++ [((m:Int),x2)] } (w9.setCell ⟨g,96,none⟩ (J1 A9 (r.q.length+1) C9))):=RQu.wait hgw H7.out.1 H7.out.2.1 HQS.out.2.1 HQS.out.2.2.1 HQS.out.2.2.2.1 HQS.out.2.2.2.2.1 H7.out.2.2.2.1 HQS.out.2.2.2.2.2 H7.out.2.2.1 HQS.out.1 HIN.out HW9.out.1 HW9.out.2.1 HW9.out.2.2
     clear c9 f9;go_wp2;exact⟨⟨k+1,by omega,by go_num,by rw[HST.out,HSP.out];exact⟨HN.out,by simp;omega⟩⟩,by simp[intOf];omega⟩
end Pv
namespace Pv
open Go.RowKit
def tells(p:Pr):Nat->Pr
 | 0=>p
 | k+1=>z1B (tells p k) k
structure TQu(P:Nat->Prop)(w1:World)(g:Nat)(r:Pr)(wl:World):Prop where
 st:∃ (v:PrV) (Q:Nat->Prop),CAt 47 wl g (prC r v)/\PIn Q wl r v/\(∀ b,Q b->New P w1 0 b)/\¬ Q g
 A:Alt g w1 wl
def Joins(F:Option Addr->Nat->Act)(R:Option Addr->Nat->World->Prop)(ex:Exit)(a:Act)(w:World):Prop:=∃ A C,ex=Exit.normal/\a=F A C/\R A C w
theorem z7z{P:Program}{c:Code}{Q:Exit->Act->World->Prop}{a:Act}{w:World}(R:Option Addr->Nat->World->Prop)(F:Option Addr->Nat->Act)(h1:Code.wp P c (Joins F R) a w)(h2:∀ A C w',R A C w'->Q Exit.normal (F A C) w'):Code.wp P c Q a w:=
 Code.wp_mono (fun e a' w' h=>by obtain⟨A,C,rfl,rfl,h⟩:=h;exact h2 A C w' h) h1
theorem z6r(p:Pr):∀ k,(tells p k).h=p.h/\(tells p k).t=p.t/\(tells p k).set=p.set/\∀ j,k<=j->(tells p k).L j=p.L j
 | 0=>⟨rfl,rfl,rfl,fun _ _=>rfl⟩
 | k+1=>by
  obtain⟨h1,h2,h3,h4⟩:=z6r p k;obtain⟨a1,a2,a3,a4,-⟩:=q3x (tells p k) k;exact⟨a1.trans h1,a2.trans h2,a4.trans h3,fun j hj=>(q3e (tells p k) k j (by omega)).trans (h4 j (by omega))⟩
structure LnK(g g7:Nat)(a b c d e:Value)(wx:World):Prop where
 l0:wx.cell? ⟨g7,0,none⟩=some a
 l1:wx.cell? ⟨g7,0+1,none⟩=some b
 l2:wx.cell? ⟨g7,0+2,none⟩=some c
 l3:wx.cell? ⟨g7,0+3,none⟩=some d
 l65:wx.cell? ⟨g,65,none⟩=some e
theorem LnK.put{g g7 o:Nat}{a b c d e:Value}{w:World}(h:LnK g g7 a b c d e w)(hn:g≠g7)(ho:65<o)(v:Value):LnK g g7 a b c d e (w.setCell ⟨g,o,none⟩ v):=
 ⟨(World.cell?_setCell_far _ _ _ _ hn).trans h.l0,(World.cell?_setCell_far _ _ _ _ hn).trans h.l1,(World.cell?_setCell_far _ _ _ _ hn).trans h.l2,(World.cell?_setCell_far _ _ _ _ hn).trans h.l3,
  (World.cell?_setCell_other _ _ _ _ (by intro e;injection e with _ e _;omega)).trans h.l65⟩
theorem LnK.sets{g g7 o:Nat}{a b c d e:Value}{w:World}(h:LnK g g7 a b c d e w)(hn:g≠g7)(ho:65<o)(vs:List Value):LnK g g7 a b c d e (w.setCells g o vs):=
 ⟨(World.cell?_setCells_out g vs o w _ fun e _=>absurd e.symm hn).trans h.l0,(World.cell?_setCells_out g vs o w _ fun e _=>absurd e.symm hn).trans h.l1,(World.cell?_setCells_out g vs o w _ fun e _=>absurd e.symm hn).trans h.l2,(World.cell?_setCells_out g vs o w _ fun e _=>absurd e.symm hn).trans h.l3,
  (World.cell?_setCells_out g vs o w _ fun _ _=>.inl ho).trans h.l65⟩
theorem q2o{P Q5:Nat->Prop}{w1 wr w8:World}{g k o:Nat}{r:Pr}{v:PrV}{x:Ln.Line}{S U T:Value}(hlt:k<2)(ho:o=66+k * 14)(C8:CAt 47 w8 g (prC r v))(P8:PIn (New Q5 wr 0) w8 r v)(hg:¬ New Q5 wr 0 g)(hq:∀ b,New Q5 wr 0 b->New P w1 0 b)(A8:Alt g w1 w8)(R1:z1I (New Q5 wr 0) w8 S 1 16 (txC x.S))(R2:z1I (New Q5 wr 0) w8 U 1 8 (inC x.D))(T8:Rep (New Q5 wr 0) w8 T 2 16 (pwC r.set)) :
  TQu P w1 g { r with L:=z3d r.L k { r.L k with out:=x,told:=r.set,fresh:=false,done:=[] } } ((((w8.setCells g (o+6) [S,U,J I x.g,J3 x.cl]).setCell ⟨g,o+3,none⟩ T).setCell ⟨g,o+4,none⟩ (J3 false)).setCell ⟨g,o+5,none⟩ (J1 none 0 0)):=by
 subst ho;have hk:∀ b,New Q5 wr 0 b->b≠g:=fun b hb e=>hg (by rw[<- e];exact hb)
 have hks:∀ b,New Q5 wr 0 b->((((w8.setCells g (66+k * 14+6) [S,U,J I x.g,J3 x.cl]).setCell ⟨g,66+k * 14+3,none⟩ T).setCell ⟨g,66+k * 14+4,none⟩ (J3 false)).setCell ⟨g,66+k * 14+5,none⟩ (J1 none 0 0)).heap[b]?=w8.heap[b]?:=fun b hb=>(Below.heap_setCell _ _ _ _ (hk b hb)).trans ((Below.heap_setCell _ _ _ _ (hk b hb)).trans ((Below.heap_setCell _ _ _ _ (hk b hb)).trans (z0f (hk b hb) _ _ _)));have C6:CAt 47 (w8.setCells g (66+k * 14+6) [S,U,J I x.g,J3 x.cl]) g (((((prC r v).setIfInBounds (66+k * 14+6) S).setIfInBounds (66+k * 14+7) U).setIfInBounds (66+k * 14+8) (J I x.g)).setIfInBounds (66+k * 14+9) (J3 x.cl)):=(((C8.set (66+k * 14+6) _).set (66+k * 14+7) _).set (66+k * 14+8) _).set (66+k * 14+9) _;have C9:=((C6.set (66+k * 14+3) T).set (66+k * 14+4) (J3 false)).set (66+k * 14+5) (J1 none 0 0);rw[q3a k hlt x r.set T S U]at C9;exact⟨⟨_,_,C9,q4x (P8.keep fun b hb _=>hks b hb) k x _ _ _ (T8.keep fun b hb _=>hks b hb) (R1.keep fun b hb _=>hks b hb) (R2.keep fun b hb _=>hks b hb),hq,hg⟩,(((A8.sets _ _).put _ _).put _ _).put _ _⟩
noncomputable def rtC:Code:=z8O [1,1,1,1,1,1,1,1,1,1,1,1,0] (f17.body.getD .skip)
attribute [local go_sem ↓] z0O z1c z0J z0L z4f z4t
set_option maxRecDepth 1000000 in
theorem z9b(p:Pr)(P:Nat->Prop)(w1:World)(g:Nat)(now:Int)(hn:p.t=now)(hn0:0<=now)(hn1:now<=1099511627776)(_hgw:g<w1.heap.size)(h0:TQu P w1 g p w1)(hset:z2h (-1) p.set=true)(htold:∀ c,c<2->z2h (-1) (p.L c).told=true)(v0 v2 v3 v4 v5 v6 v8 v9 v10 v11 v12 v13 v14 v15 v16 v17 v18 v19 v20 v21 v22 v23 v24 v25 v26 v27 v28 v29 v30 v31 v32 v33 v34 v35 v36 v37 v38 v39 v40 v41 v42 v43 v44 v45 v46 v47 v48 v49 v50 v51 v52 v53 v54 v55 v56 v57 v58 v59 v60 v61 v62 v63 v64 v65 v66 v67 v68 v69 v70 v71 v72 v73 v74 v75 v76 v77 v78 v79 v80 v81 v82 v83 v84 v85 v86 v87 v88 v89 v90 v91 v92 v93 v94 v95 v96 v97 v98 v99 v100 v101 v102 v103 v104 v105 v106 v107 v108 v109 v110 v111 v112 v113 v114 v115 v116 v117 v118 v119 v120 v121 v122 v123 v124 v125 v126 v127 v128 v129 v130 v131 v132 v133 v134 v135 v136 v137 v138 v139 v140 v141 v142 v143 v144 v145 v146 v147 v148 v149 v150 v151 v152 v153 v154 v155 v156 v157 v158 v159 v160 v161 v162 v163 v164 v165 v166 v167 v168 v169 v170 v171 v172 v173 v174 v175 v176 v177 v178 v179 v180 v181 v182 v183 v184 v185 v186 v187 v188:Value){Q:Exit->Act->World->Prop}
  (hQ:∀ (t16 t17 t18 t19 t20 t21 t107 t108 t109 t110 t111 t112 t113 t114 t115 t116 t117 t118 t119 t120 t121 t122 t123 t124 t125 t126 t127 t128 t129 t130 t131 t132 t133 t134 t135 t136 t137 t138 t139 t140 t141 t142 t143 t144 t145 t146 t147 t148 t149 t150 t151 t152 t153 t154 t155 t156 t157 t158 t159 t160 t161 t162 t163 t164 t165 t166 t167 t168 t169 t170 t171 t172 t173 t174 t175 t176 t177 t178 t179 t180 t181 t182 t183 t184 t185 t186:Value) (wz:World),TQu P w1 g (tells p 2) wz->Q .normal ⟨List.toArray (v0 :: (.int .i64 now) :: v2 :: v3 :: v4 :: v5 :: v6 :: (J2 (some ⟨g,0,none⟩)) :: v8 :: v9 :: v10 :: v11 :: v12 :: v13 :: v14 :: v15 :: t16 :: t17 :: t18 :: t19 :: t20 :: t21 :: v22 :: v23 :: v24 :: v25 :: v26 :: v27 :: v28 :: v29 :: v30 :: v31 :: v32 :: v33 :: v34 :: v35 :: v36 :: v37 :: v38 :: v39 :: v40 :: v41 :: v42 :: v43 :: v44 :: v45 :: v46 :: v47 :: v48 :: v49 :: v50 :: v51 :: v52 :: v53 :: v54 :: v55 :: v56 :: v57 :: v58 :: v59 :: v60 :: v61 :: v62 :: v63 :: v64 :: v65 :: v66 :: v67 :: v68 :: v69 :: v70 :: v71 :: v72 :: v73 :: v74 :: v75 :: v76 :: v77 :: v78 :: v79 :: v80 :: v81 :: v82 :: v83 :: v84 :: v85 :: v86 :: v87 :: v88 :: v89 :: v90 :: v91 :: v92 :: v93 :: v94 :: v95 :: v96 :: v97 :: v98 :: v99 :: v100 :: v101 :: v102 :: v103 :: v104 :: v105 :: v106 :: t107 :: t108 :: t109 :: t110 :: t111 :: t112 :: t113 :: t114 :: t115 :: t116 :: t117 :: t118 :: t119 :: t120 :: t121 :: t122 :: t123 :: t124 :: t125 :: t126 :: t127 :: t128 :: t129 :: t130 :: t131 :: t132 :: t133 :: t134 :: t135 :: t136 :: t137 :: t138 :: t139 :: t140 :: t141 :: t142 :: t143 :: t144 :: t145 :: t146 :: t147 :: t148 :: t149 :: t150 :: t151 :: t152 :: t153 :: t154 :: t155 :: t156 :: t157 :: t158 :: t159 :: t160 :: t161 :: t162 :: t163 :: t164 :: t165 :: t166 :: t167 :: t168 :: t169 :: t170 :: t171 :: t172 :: t173 :: t174 :: t175 :: t176 :: t177 :: t178 :: t179 :: t180 :: t181 :: t182 :: t183 :: t184 :: t185 :: t186 :: v187 :: v188 :: []),[]⟩ wz) :
  Code.wp prog rtC Q ⟨List.toArray (v0 :: (.int .i64 now) :: v2 :: v3 :: v4 :: v5 :: v6 :: (J2 (some ⟨g,0,none⟩)) :: v8 :: v9 :: v10 :: v11 :: v12 :: v13 :: v14 :: v15 :: v16 :: v17 :: v18 :: v19 :: v20 :: v21 :: v22 :: v23 :: v24 :: v25 :: v26 :: v27 :: v28 :: v29 :: v30 :: v31 :: v32 :: v33 :: v34 :: v35 :: v36 :: v37 :: v38 :: v39 :: v40 :: v41 :: v42 :: v43 :: v44 :: v45 :: v46 :: v47 :: v48 :: v49 :: v50 :: v51 :: v52 :: v53 :: v54 :: v55 :: v56 :: v57 :: v58 :: v59 :: v60 :: v61 :: v62 :: v63 :: v64 :: v65 :: v66 :: v67 :: v68 :: v69 :: v70 :: v71 :: v72 :: v73 :: v74 :: v75 :: v76 :: v77 :: v78 :: v79 :: v80 :: v81 :: v82 :: v83 :: v84 :: v85 :: v86 :: v87 :: v88 :: v89 :: v90 :: v91 :: v92 :: v93 :: v94 :: v95 :: v96 :: v97 :: v98 :: v99 :: v100 :: v101 :: v102 :: v103 :: v104 :: v105 :: v106 :: v107 :: v108 :: v109 :: v110 :: v111 :: v112 :: v113 :: v114 :: v115 :: v116 :: v117 :: v118 :: v119 :: v120 :: v121 :: v122 :: v123 :: v124 :: v125 :: v126 :: v127 :: v128 :: v129 :: v130 :: v131 :: v132 :: v133 :: v134 :: v135 :: v136 :: v137 :: v138 :: v139 :: v140 :: v141 :: v142 :: v143 :: v144 :: v145 :: v146 :: v147 :: v148 :: v149 :: v150 :: v151 :: v152 :: v153 :: v154 :: v155 :: v156 :: v157 :: v158 :: v159 :: v160 :: v161 :: v162 :: v163 :: v164 :: v165 :: v166 :: v167 :: v168 :: v169 :: v170 :: v171 :: v172 :: v173 :: v174 :: v175 :: v176 :: v177 :: v178 :: v179 :: v180 :: v181 :: v182 :: v183 :: v184 :: v185 :: v186 :: v187 :: v188 :: []),[]⟩ w1:=by
 have HK:=J6 hQ;clear hQ
 conv=>arg 2;whnf
 have H0:=J6 h0;have HT:=J6 (show _/\_/\_ from⟨hn,hset,htold⟩);clear h0 hn hset htold
 go_upto_region 28 with fail
 go_loopw [107] (fun i wl=>∃ (k:Nat),k<=2/\i=.int .i64 (k:Int)/\Hid (TQu P w1 g (tells p k) wl)) (fun i _=>2 - (intOf i).toNat)
 case atStart=>exact⟨0,Nat.zero_le _,rfl,H0⟩
 case round =>
  obtain⟨k,hk,rfl,HR⟩:=hrel
  by_cases hlt:k<2
  rotate_left
  ·obtain rfl:k=2:=by omega
   go_wp2;exact HK.out _ _ _ _ _ _ _ _ _ _ _ _ _ _ _ _ _ _ _ _ _ _ _ _ _ _ _ _ _ _ _ _ _ _ _ _ _ _ _ _ _ _ _ _ _ _ _ _ _ _ _ _ _ _ _ _ _ _ _ _ _ _ _ _ _ _ _ _ _ _ _ _ _ _ _ _ _ _ _ _ _ _ _ _ _ _ _ HR.out
  have hkI:(k:Int)<2:=by omega
  have hk0:(0:Int)<=(k:Int):=by omega
  obtain⟨r1,r2,r3,r4⟩:=z6r p k;have HST:Hid (tells p (k+1)=z1B (tells p k) k):=rfl;have hsr:z2h (-1) (tells p k).set=true:=by rw[r3];exact HT.out.2.1
  have htr:z2h (-1) ((tells p k).L k).told=true:=by rw[r4 k (Nat.le_refl _)];exact HT.out.2.2 k hlt
  have htn:(tells p k).t=now:=r2.trans HT.out.1;generalize tells p k=r at *;obtain⟨⟨v,Q5,C5,P5,hq1,hq2⟩,A5⟩:=HR.out
  have hD:z1B r k=if z3n r (r.L k)=true then r
   else if Cd.z0o 1 r.h 0 0 (Df.z2x (r.L k).told r.set) (r.L k).done=0 then
    if Ln.z4M (r.L k).out (now+40)=0 then { r with L:=z3d r.L k { r.L k with out:=Ln.z5z (r.L k).out (Cd.encS 1 r.h 0 0 (Df.z2x (r.L k).told r.set) (r.L k).done) (now+40),told:=r.set,fresh:=false,done:=[] } } else r
   else r:=by rw[<- htn];rfl
  have hQB:z3n r (r.L k)=(!(r.L k).on || (decide (((Df.z2x (r.L k).told r.set).length:Int)+((r.L k).done.length:Int)=0) && !(r.L k).fresh)):=by
   have hdn:=q4V htr hsr;unfold z3n;cases (r.L k).on
   ·rfl
   ·show (decide ((r.L k).told=r.set) && !(r.L k).fresh && decide ((r.L k).done.length=0))=(decide (((Df.z2x (r.L k).told r.set).length:Int)+((r.L k).done.length:Int)=0) && !(r.L k).fresh)
    rw[Bool.eq_iff_iff];simp only[Bool.and_eq_true,decide_eq_true_eq];rw[<- hdn]
    constructor
    ·rintro⟨⟨h1,h2⟩,h3⟩;exact⟨by omega,h2⟩
    ·rintro⟨h1,h2⟩;exact⟨⟨by omega,h2⟩,by omega⟩
  have HD:=J6 hD;have HQB:=J6 hQB;have h6:=q2E (r.L k).told r.set;clear hD hQB r1 r2 r3 r4 hsr htr;obtain⟨At,nt,Ct,et⟩:=(P5.lk k hlt).told.one';obtain⟨As,ns,Cs,es'⟩:=P5.set.one';obtain⟨Ad,Cd0,ed,sd,-⟩:=(P5.lk k hlt).done.open (z0M _) (by decide)
  have hdl:(r.L k).done.length<=17592186044404:=by omega
  obtain⟨o,ho⟩:∃ o,o=66+k * 14:=⟨_,rfl⟩;have HO:=J6 ho
  have HF31:Hid (∀ wx,Bl wr wx->wx.cell? ⟨g,o+3,none⟩=some (J1 At nt Ct)/\wx.cell? ⟨g,65,none⟩=some (J1 As ns Cs)):=fun wx hb=>by
   have C:=C5.over hb;rw[<- et,<- es',ho];exact⟨(C.lk hlt).facts.2.2.2.1,C.cell 65⟩
  have HDF:=J6 (fun (wx:World) (hb:Bl wr wx)=>q2R (r.L k).told r.set (v.l k).told v.set Q5 Q5 wx ((P5.lk k hlt).told.over hb) (P5.set.over hb));rw[et,es']at HDF;have H5:=J6 (show _/\_/\_/\_/\_ from⟨C5,P5,hq1,hq2,A5⟩);have HE:=J6 (show _/\_/\_ from⟨et,es',ed⟩);have hg5:=C5.lt;generalize Df.z2x (r.L k).told r.set=dl at *;clear C5 P5 A5 hq1 hq2 HR et es' ed sd
  go_upto_region 31 with fail
  rw[<- ho];clear ho;apply z7z (fun Au Cu w'=>Rep (fun b=>wr.heap.size<=b) w' (J1 Au dl.length Cu) 2 16 (pwC dl)/\Bl wr w')
  ·refine wp_region_noPanic ?_;refine wp_region_held_drew (S:=fun wx=>Bl wr wx) (by kernel_rfl) (Below.refl _ _).drew (fun hS=>?_)
   refine O.Z 0 (J2 (some ⟨g,o,none⟩)) 113 rfl rfl hS (fun wx hSw=>?_) ?_
   ·try dsimp only at hSw
    go_simp
   simp only[O.pp,O.pb,O.pc];refine O.Z 1 (J2 (some ⟨g,o,none⟩)) 114 rfl rfl hS (fun wx hSw=>?_) ?_
   ·try dsimp only at hSw
    go_simp
   simp only[O.pp,O.pb,O.pc];refine O.Z 2 (J2 (some ⟨g,o+3,none⟩)) 115 rfl rfl hS (fun wx hSw=>?_) ?_
   ·try dsimp only at hSw
    go_simp
   simp only[O.pp,O.pb,O.pc];refine O.Z 3 (J1 At nt Ct) 116 rfl rfl hS (fun wx hSw=>?_) ?_
   ·try dsimp only at hSw
    obtain⟨f3,f65⟩:=HF31.out wx hSw;go_simp
   simp only[O.pp,O.pb,O.pc];refine O.Z 4 (J2 (some ⟨g,65,none⟩)) 117 rfl rfl hS (fun wx hSw=>?_) ?_
   ·try dsimp only at hSw
    go_simp
   simp only[O.pp,O.pb,O.pc];refine O.Z 5 (J1 As ns Cs) 118 rfl rfl hS (fun wx hSw=>?_) ?_
   ·try dsimp only at hSw
    obtain⟨f3,f65⟩:=HF31.out wx hSw;go_simp
   simp only[O.pp,O.pb,O.pc];refine wpAnyH_ready (rs:=[6]) (by kernel_rfl) (by simp) ?_
   refine AllReadyH.cons rfl (fun K hK=>?_) AllReadyH.nil;go_simp
   go_at_call 51
   refine (HDF.out _ (by exact hS)).mono ?_
   rintro e w2⟨u,rfl,U2,hb2⟩;obtain⟨Au,Cu,rfl,-⟩:=U2.open (z0r _) (by decide)
   replace hS:=zbt hS hb2;dsimp only;refine hK.out _ _ hS (fun hS=>?_);clear hK K
   try simp only[O.pp,O.pb,O.pc]
   refine O.Z 7 (J1 Au dl.length Cu) 18 rfl rfl hS (fun wx hSw=>?_) ?_
   ·try dsimp only at hSw
    go_simp
   simp only[O.pp,O.pb,O.pc];refine wpAnyH_done (by kernel_rfl) ?_ _
   exact NoPanic.normal ⟨Au,Cu,rfl,rfl,U2.over (Below.refl _ _),hS⟩
  rintro Au Cu w2⟨U2,hb2⟩;have H2:=J6 (show _/\_ from⟨U2,hb2⟩);have HQR:Hid (∀ wx,Bl wr wx->TQu P w1 g r wx):=fun wx hb=>⟨⟨v,New Q5 wr 0,H5.out.1.over hb,H5.out.2.1.z2w hb 0,fun b h=>(by rcases h with⟨h,_⟩ | h;exact H5.out.2.2.1 b h;exact .inr (by have:=H5.out.2.2.2.2.size;omega)),z1t H5.out.2.2.2.1 hg5⟩,H5.out.2.2.2.2.trans (Alt.of hb)⟩
  have HF2:Hid (∀ wx,Bl w2 wx->wx.cell? ⟨g,0,none⟩=some (.int .i64 r.h)/\wx.cell? ⟨g,o,none⟩=some (J3 (r.L k).on)/\wx.cell? ⟨g,o+4,none⟩=some (J3 (r.L k).fresh)/\wx.cell? ⟨g,o+5,none⟩=some (J1 Ad (r.L k).done.length Cd0)):=fun wx hb=>by
   have C:=(H5.out.1.over H2.out.2).over hb;have hf:=(C.lk hlt).facts;rw[<- HO.out,HE.out.2.2]at hf;exact⟨C.cell 0,hf.1,hf.2.2.2.2.1,hf.2.2.2.2.2.1⟩
  obtain⟨-,a0,a4,a5⟩:=HF2.out w2 (Below.refl _ _);have hg2:g<w2.heap.size:=Nat.lt_of_lt_of_le hg5 H2.out.2.size;have hws:IntKind.i64.wrap ((dl.length:Int)+((r.L k).done.length:Int))=(dl.length:Int)+((r.L k).done.length:Int):=z5V (by omega) (by omega)
  clear U2 hb2 HF31 HDF;simp only[Exit.then];apply_assumption;cases hon:(r.L k).on
  ·have hq:Hid (z1B r k=r):=HD.out.trans (if_pos (by rw[HQB.out,hon];rfl))
   rw[hon]at a0;clear HD HQB;go_wp2;go_roundw
   case rel=>exact⟨k+1,by omega,by go_num,by rw[HST.out,hq.out];exact HQR.out _ H2.out.2⟩
   case measure=>simp[intOf];omega
  rw[hon]at a0
  by_cases hsum:(dl.length:Int)+((r.L k).done.length:Int)=0
  ·have hsb:((dl.length:Int)+((r.L k).done.length:Int) == 0)=true:=by simpa using hsum
   cases hfr:(r.L k).fresh
   ·have hq:Hid (z1B r k=r):=HD.out.trans (if_pos (by rw[HQB.out,hon,hfr];simp[hsum]))
    rw[hfr]at a4;have hd0:dl.length=0:=by omega
    have hd1:(r.L k).done.length=0:=by omega
    rw[hd1]at a5;clear HD HQB;go_wp2;exact⟨⟨k+1,by omega,by go_num,by rw[HST.out,hq.out];exact HQR.out _ H2.out.2⟩,by simp[intOf];omega⟩
   ·have hnq:Hid (z3n r (r.L k)=false):=by rw[Hid,HQB.out,hon,hfr];simp
    rw[hfr]at a4
    go_upto_region 33 with fail
    have HD1:=J6 (HD.out.trans (if_neg (by rw[hnq.out];simp)))
    have HF33:Hid (∀ wx,Bl w2 wx->wx.cell? ⟨g,0,none⟩=some (.int .i64 r.h)/\wx.cell? ⟨g,o+5,none⟩=some (J1 Ad (r.L k).done.length Cd0)):=fun wx hb=>by
     obtain⟨b0,-,-,b5⟩:=HF2.out wx hb;exact⟨b0,b5⟩
    have HEN:Hid (∀ wx,Bl w2 wx->Calls prog 52 #[J4 #[.int .i64 1,.int .i64 r.h,.int .i64 0,.int .i64 0,J1 Au dl.length Cu,J1 Ad (r.L k).done.length Cd0]] wx fun e w'=>e=.returned (.tuple #[.string (Cd.encS 1 r.h 0 0 dl (r.L k).done),.int .i64 (Cd.z0o 1 r.h 0 0 dl (r.L k).done)])/\Bl wx w'):=fun wx hb=>by
     have q2:=(((H5.out.2.1.lk k hlt).done.over H2.out.2).over hb).mono (P':=fun _=>True) fun _ _ _=>trivial;rw[HE.out.2.2]at q2;have q1:=(H2.out.1.over hb).mono (P':=fun _=>True) fun _ _ _=>trivial;obtain⟨A1,C1,A2,C2,sb,so,db,dO,z1,z2,hL⟩:=Rep.lies q1 q2;cases z1;cases z2;exact Cd.q6x 1 r.h 0 0 dl (r.L k).done Au Ad Cu Cd0 sb so db dO wx hL
    generalize Cd.encS 1 r.h 0 0 dl (r.L k).done=es at *;generalize Cd.z0o 1 r.h 0 0 dl (r.L k).done=E0 at *;clear HD HQB hnq a0 a4 a5 hws;apply z2d (fun w'=>Bl w2 w')
    ·refine wp_region_noPanic ?_;refine wp_region_held_drew (S:=fun wx=>Bl w2 wx) (by kernel_rfl) (Below.refl _ _).drew (fun hS=>?_)
     refine O.Z 0 (J2 (some ⟨g,0,none⟩)) 144 rfl rfl hS (fun wx hSw=>?_) ?_
     ·try dsimp only at hSw
      go_simp
     simp only[O.pp,O.pb,O.pc];refine O.Z 1 (.int .i64 r.h) 145 rfl rfl hS (fun wx hSw=>?_) ?_
     ·try dsimp only at hSw
      obtain⟨f0,f5⟩:=HF33.out wx hSw;go_simp
     simp only[O.pp,O.pb,O.pc];refine O.Z 2 (J1 Au dl.length Cu) 146 rfl rfl hS (fun wx hSw=>?_) ?_
     ·try dsimp only at hSw
      go_simp
     simp only[O.pp,O.pb,O.pc];refine O.Z 3 (J2 (some ⟨g,o,none⟩)) 147 rfl rfl hS (fun wx hSw=>?_) ?_
     ·try dsimp only at hSw
      go_simp
     simp only[O.pp,O.pb,O.pc];refine O.Z 4 (J2 (some ⟨g,o,none⟩)) 148 rfl rfl hS (fun wx hSw=>?_) ?_
     ·try dsimp only at hSw
      go_simp
     simp only[O.pp,O.pb,O.pc];refine O.Z 5 (J2 (some ⟨g,o+5,none⟩)) 149 rfl rfl hS (fun wx hSw=>?_) ?_
     ·try dsimp only at hSw
      go_simp
     simp only[O.pp,O.pb,O.pc];refine O.Z 6 (J1 Ad (r.L k).done.length Cd0) 150 rfl rfl hS (fun wx hSw=>?_) ?_
     ·try dsimp only at hSw
      obtain⟨f0,f5⟩:=HF33.out wx hSw;go_simp
     simp only[O.pp,O.pb,O.pc];refine O.Z 7 (J4 #[.int .i64 1,.int .i64 r.h,.int .i64 0,.int .i64 0,J1 Au dl.length Cu,J1 Ad (r.L k).done.length Cd0]) 151 rfl rfl hS (fun wx hSw=>?_) ?_
     ·try dsimp only at hSw
      go_simp
     simp only[O.pp,O.pb,O.pc];refine wpAnyH_ready (rs:=[8]) (by kernel_rfl) (by simp) ?_
     refine AllReadyH.cons rfl (fun K hK=>?_) AllReadyH.nil;go_simp
     go_at_call 52
     refine (HEN.out _ (by exact hS)).mono ?_
     rintro e w3⟨rfl,hb3⟩;replace hS:=zbt hS hb3;dsimp only;refine hK.out _ _ hS (fun hS=>?_);clear hK K
     try simp only[O.pp,O.pb,O.pc]
     refine O.Z 9 (.tuple #[.string es,.int .i64 E0]) 143 rfl rfl hS (fun wx hSw=>?_) ?_
     ·try dsimp only at hSw
      go_simp
     simp only[O.pp,O.pb,O.pc];refine O.Z 10 (.string es) 153 rfl rfl hS (fun wx hSw=>?_) ?_
     ·try dsimp only at hSw
      go_simp
     simp only[O.pp,O.pb,O.pc];refine O.Z 11 (.int .i64 E0) 154 rfl rfl hS (fun wx hSw=>?_) ?_
     ·try dsimp only at hSw
      go_simp
     simp only[O.pp,O.pb,O.pc];refine O.Z 12 (.string es) 19 rfl rfl hS (fun wx hSw=>?_) ?_
     ·try dsimp only at hSw
      go_simp
     simp only[O.pp,O.pb,O.pc];refine O.Z 13 (.int .i64 E0) 20 rfl rfl hS (fun wx hSw=>?_) ?_
     ·try dsimp only at hSw
      go_simp
     simp only[O.pp,O.pb,O.pc];refine wpAnyH_done (by kernel_rfl) ?_ _
     exact NoPanic.normal ⟨rfl,rfl,hS⟩
    intro w3 b3;have HB3:=J6 (zbt H2.out.2 b3);clear b3 HF33 HEN HF2 H2;simp only[Exit.then];apply_assumption
    by_cases hE:E0=0
    rotate_left
    ·have hq:Hid (z1B r k=r):=HD1.out.trans (if_neg hE);have hE':(E0 != 0)=true:=by simpa using hE
     clear HD1;go_wp2;go_roundw
     case rel=>exact⟨k+1,by omega,by go_num,by rw[HST.out,hq.out];exact HQR.out _ HB3.out⟩
     case measure=>simp[intOf];omega
    subst hE;replace HD1:=J6 (HD1.out.trans (if_pos rfl));have hsz3:=HB3.out.size;obtain⟨Ae,ne,Ce,ee⟩:=(H5.out.2.1.lk k hlt).said.one';obtain⟨Af,nf,Cf,ef⟩:=(H5.out.2.1.lk k hlt).due.one';have HSY:=J6 (z9V (r.L k).out es (now+40) (v.l k).said (v.l k).due (fun b=>Q5 b/\b<wr.heap.size) w3 (((H5.out.2.1.lk k hlt).said.mono fun b hl h=>⟨h,hl⟩).over HB3.out) (((H5.out.2.1.lk k hlt).due.mono fun b hl h=>⟨h,hl⟩).over HB3.out));rw[ee,ef]at HSY;have C3:=H5.out.1.over HB3.out;have hf3:=(C3.lk hlt).facts;rw[<- HO.out,ee,ef]at hf3;obtain⟨-,-,-,-,-,-,g6,g7',g8,g9⟩:=hf3;have hwr:IntKind.i64.wrap (now+40)=now+40:=z5V (by omega) (by omega)
    generalize Ln.z5z (r.L k).out es (now+40)=x at *;generalize Ln.z4M (r.L k).out (now+40)=E1 at *;generalize (r.L k).out.g=gg at *;generalize (r.L k).out.cl=gc at *;have HS3:=J6 hsz3;have hg3:=C3.lt;clear C3 hsz3
    go_upto_region 36 with (go_at_call 53;refine HSY.out.mono ?_;rintro e wb⟨u1,u2,rfl,U1,U3,hbb⟩;obtain⟨A1,n1,K1,rfl⟩:=U1.one';obtain⟨A2,n2,K2,rfl⟩:=U3.one';obtain⟨wS,sA,hST⟩:=z8S (P:=Q5) HS3.out (Nat.le_refl _) U1 U3 hbb;unfold Z4 at sA;have HST7:=J6 hST;have hgne7:g≠wb.heap.size:=Nat.ne_of_lt (Nat.lt_of_lt_of_le hg3 hbb.size);clear hST U1 U3 hbb g6 g7' g8 g9;dsimp only)
    generalize wb.heap.size=g7 at *;have HB7:=J6 (zbt HB3.out HST7.out.bel)
    by_cases hE1:E1=0
    rotate_left
    ·have hq:Hid (z1B r k=r):=HD1.out.trans (if_neg hE1);have hE':(E1 != 0)=true:=by simpa using hE1
     clear HD1;go_wp2;go_roundw
     case rel=>exact⟨k+1,by omega,by go_num,by rw[HST.out,hq.out];exact HQR.out _ HB7.out⟩
     case measure=>simp[intOf];omega
    subst hE1;replace HD1:=J6 (HD1.out.trans (if_pos rfl))
    have HQN:Hid (∀ b,New Q5 wr 0 b->New P w1 0 b):=fun b h=>by
     rcases h with⟨h,_⟩ | h
     ·exact H5.out.2.2.1 b h
     ·exact .inr (by have:=H5.out.2.2.2.2.size;omega)
    have hgne:g≠g7:=hgne7;have ho66:66<=o:=by have:=HO.out;omega
    have HF37:Hid (∀ wx,Bl wS wx->LnK g g7 (J1 A1 n1 K1) (J1 A2 n2 K2) (.int .i64 x.g) (J3 x.cl) (J1 As ns Cs) wx):=fun wx hb=>by
     have X:=HST7.out.cat.over hb;have C:=(H5.out.1.over HB7.out).over hb;exact⟨X.cell 0,X.cell 1,X.cell 2,X.cell 3,by rw[<- HE.out.2.1];exact C.cell 65⟩
    have HSE:Hid (∀ wx,Bl wS wx->Rep Q5 wx (J1 As ns Cs) 2 16 (pwC r.set)):=fun wx hb=>by
     have:=(H5.out.2.1.set.over HB7.out).over hb;rw[HE.out.2.1]at this;exact this
    have HSR:=J6 (fun (wx:World) (hb:Bl wS wx)=>(HSE.out wx hb).src);have HTR:=J6 (fun (wx:World) (AT:Option Addr) (CT:Nat) (w8:World) (hb:Bl wS wx) (hcp:Cd.z1Z wx As ns 2 AT CT w8)=>Rep.copied (HSE.out wx hb) (by decide) hcp (fun _ _=>rfl))
    go_upto_region 37 with fail
    apply z7z (fun AT CT w'=>TQu P w1 g (z1B r k) w')
    ·refine wp_region_noPanic ?_;have hBl:Bl wS wS.drew:=(Below.refl _ _).drew;refine wp_region_held_drew (S:=LnK g g7 (J1 A1 n1 K1) (J1 A2 n2 K2) (.int .i64 x.g) (J3 x.cl) (J1 As ns Cs)) (by kernel_rfl) (HF37.out _ hBl) (fun hS=>?_)
     refine O.Z 0 (J2 (some ⟨g,o,none⟩)) 170 rfl rfl hS (fun wx hSw=>?_) ?_
     ·try dsimp only at hSw
      go_simp
     simp only[O.pp,O.pb,O.pc];refine O.Z 1 (J2 (some ⟨g,o,none⟩)) 171 rfl rfl hS (fun wx hSw=>?_) ?_
     ·try dsimp only at hSw
      go_simp
     simp only[O.pp,O.pb,O.pc];refine O.Z 2 (J2 (some ⟨g,o,none⟩)) 172 rfl rfl hS (fun wx hSw=>?_) ?_
     ·try dsimp only at hSw
      go_simp
     simp only[O.pp,O.pb,O.pc];refine O.Z 3 (J2 (some ⟨g,o,none⟩)) 173 rfl rfl hS (fun wx hSw=>?_) ?_
     ·try dsimp only at hSw
      go_simp
     simp only[O.pp,O.pb,O.pc];refine O.Z 4 (J4 #[J1 A1 n1 K1,J1 A2 n2 K2,.int .i64 x.g,J3 x.cl]) 174 rfl rfl hS (fun wx hSw=>?_) ?_
     ·try dsimp only at hSw
      obtain⟨l0,l1,l2,l3,l65⟩:=hSw;go_simp
     simp only[O.pp,O.pb,O.pc];refine O.Z 5 (J2 (some ⟨g,65,none⟩)) 175 rfl rfl hS (fun wx hSw=>?_) ?_
     ·try dsimp only at hSw
      go_simp
     simp only[O.pp,O.pb,O.pc];refine O.Z 6 (J1 As ns Cs) 176 rfl rfl hS (fun wx hSw=>?_) ?_
     ·try dsimp only at hSw
      obtain⟨l0,l1,l2,l3,l65⟩:=hSw;go_simp
     simp only[O.pp,O.pb,O.pc];refine wpAnyH_ready (rs:=[7]) (by kernel_rfl) (by simp) ?_
     refine AllReadyH.cons rfl (fun K hK=>?_) AllReadyH.nil;refine Cd.z3U rfl rfl _ _ rfl As ns Cs rfl rfl (HSR.out _ (by exact hBl)) ?_
     intro AT CT w8 hcp;have T8:=HTR.out _ _ _ _ (by exact hBl) hcp
     replace hBl:=zbt hBl hcp.below;clear hcp;refine hK.out _ _ (HF37.out _ hBl) (fun hS=>?_);clear hK K;simp only[Act.put,List.setIfInBounds_toArray];refine O.Z 8 (J2 (some ⟨g,o,none⟩)) 178 rfl rfl hS (fun wx hSw=>?_) ?_
     ·try dsimp only at hSw
      go_simp
     simp only[Act.put];refine O.Z 9 (J2 (some ⟨g,o+6,none⟩)) 179 rfl rfl hS (fun wx hSw=>?_) ?_
     ·try dsimp only at hSw
      go_simp
     simp only[Act.put];have C8:=(H5.out.1.over HB7.out).over hBl;have P8:=(H5.out.2.1.z2w HB7.out 0).over hBl;have A8:=(H5.out.2.2.2.2.trans (Alt.of HB7.out)).trans (Alt.of hBl);have R18:=(HST7.out.r1.mono (P':=New Q5 wr 0) fun b _ h=>h.1).over hBl;have R28:=(HST7.out.r2.mono (P':=New Q5 wr 0) fun b _ h=>h.1).over hBl;have T88:=T8.mono (P':=New Q5 wr 0) fun b _ h=>.inr (by have:=HB7.out.size;have e9:wS.drew.heap.size=wS.heap.size:=rfl;omega)
     have HTQ:=J6 (q2o (P:=P) hlt HO.out C8 P8 (z1t H5.out.2.2.2.1 hg5) HQN.out A8 (x:=x) R18 R28 T88)
     have sN:(z5E (J2 (some ⟨g,o+6,none⟩)) (J4 #[J1 A1 n1 K1,J1 A2 n2 K2,.int .i64 x.g,J3 x.cl])).run prog w8=.ok () (w8.setCells g (o+6) [J1 A1 n1 K1,J1 A2 n2 K2,.int .i64 x.g,J3 x.cl]):=
      run_storeAt_mid (P:=prog) w8 g (o+6) 37 #[J1 A1 n1 K1,J1 A2 n2 K2,.int .i64 x.g,J3 x.cl] (C8.there (o+6) 4 (by rw[z0c,HO.out];omega)) (by rw[z7q];rfl) (by simp[Value.oneCell'])
     have CL:CAt 47 (w8.setCells g (o+6) [J1 A1 n1 K1,J1 A2 n2 K2,.int .i64 x.g,J3 x.cl]) g (((((prC r v).setIfInBounds (o+6) (J1 A1 n1 K1)).setIfInBounds (o+7) (J1 A2 n2 K2)).setIfInBounds (o+8) (.int .i64 x.g)).setIfInBounds (o+9) (J3 x.cl)):=(((C8.set (o+6) _).set (o+7) _).set (o+8) _).set (o+9) _
     have hl:∀ j,j<6->∀ z,(lkL (r.L k) (v.l k))[j]?=some z->(w8.setCells g (o+6) [J1 A1 n1 K1,J1 A2 n2 K2,.int .i64 x.g,J3 x.cl]).cell? ⟨g,o+j,none⟩=some z:=fun j hj z hz=>by
      rw[CL.cell (o+j)];simp only[Array.getElem?_setIfInBounds];rw[if_neg (by omega),if_neg (by omega),if_neg (by omega),if_neg (by omega),HO.out,z2E k hlt j (by omega),hz]
     have q3:=hl 3 (by omega) _ rfl
     have q4:=hl 4 (by omega) _ rfl
     have q5:=hl 5 (by omega) _ rfl
     rw[HE.out.1]at q3;rw[HE.out.2.2]at q5;have z3:=CL.free (o+3);have z4:=CL.free (o+4);have z5:=CL.free (o+5);have hgL:=CL.lt;clear C8 P8 A8 R18 R28 T88 T8 hl CL;have hS6:=hS.sets hgne (o:=o+6) (by omega) [J1 A1 n1 K1,J1 A2 n2 K2,.int .i64 x.g,J3 x.cl]
     refine O.z1p (i:=10) (by kernel_rfl) rfl rfl (fun K hK=>?_)
     go_simp;refine hK _ _ hS6 ?_;clear hK K sN hS;have hS:=hS6;clear hS6;generalize w8.setCells g (o+6) [J1 A1 n1 K1,J1 A2 n2 K2,.int .i64 x.g,J3 x.cl]=wL at *;refine O.Z 11 (J2 (some ⟨g,o,none⟩)) 180 rfl rfl hS (fun wx hSw=>?_) ?_
     ·try dsimp only at hSw
      go_simp
     simp only[O.pp,O.pb,O.pc];refine O.Z 12 (J2 (some ⟨g,o+3,none⟩)) 181 rfl rfl hS (fun wx hSw=>?_) ?_
     ·try dsimp only at hSw
      go_simp
     simp only[O.pp,O.pb,O.pc];refine O.z1p (i:=13) (by kernel_rfl) rfl rfl (fun K hK=>?_)
     go_simp;replace hS:=hS.put hgne (o:=o+3) (by omega) (J1 AT ns CT)
     refine hK _ _ hS ?_;clear hK K;refine O.Z 14 (J2 (some ⟨g,o,none⟩)) 182 rfl rfl hS (fun wx hSw=>?_) ?_
     ·try dsimp only at hSw
      go_simp
     simp only[O.pp,O.pb,O.pc];refine O.Z 15 (J2 (some ⟨g,o+4,none⟩)) 183 rfl rfl hS (fun wx hSw=>?_) ?_
     ·try dsimp only at hSw
      go_simp
     simp only[O.pp,O.pb,O.pc];refine O.z1p (i:=16) (by kernel_rfl) rfl rfl (fun K hK=>?_)
     go_simp;replace hS:=hS.put hgne (o:=o+4) (by omega) (J3 false)
     refine hK _ _ hS ?_;clear hK K;refine O.Z 17 (J2 (some ⟨g,o,none⟩)) 184 rfl rfl hS (fun wx hSw=>?_) ?_
     ·try dsimp only at hSw
      go_simp
     simp only[O.pp,O.pb,O.pc];refine O.Z 18 (J2 (some ⟨g,o+5,none⟩)) 185 rfl rfl hS (fun wx hSw=>?_) ?_
     ·try dsimp only at hSw
      go_simp
     simp only[O.pp,O.pb,O.pc];refine O.z1p (i:=19) (by kernel_rfl) rfl rfl (fun K hK=>?_)
     go_simp;replace hS:=hS.put hgne (o:=o+5) (by omega) (J1 none 0 0)
     refine hK _ _ hS ?_;clear hK K;refine wpAnyH_done (by kernel_rfl) ?_ _
     exact NoPanic.normal ⟨AT,CT,rfl,rfl,by rw[HD1.out];exact HTQ.out⟩
    intro AT CT w9 hT;have HT9:=J6 hT;clear hT HF37 HSE HSR HTR HQN HST7 HSY
    try simp only[Exit.then]
    try apply_assumption
    try go_wp2
    go_roundw
    case rel=>exact⟨k+1,by omega,by go_num,by rw[HST.out];exact HT9.out⟩
    case measure=>simp[intOf];omega
  ·have hnq:Hid (z3n r (r.L k)=false):=by rw[Hid,HQB.out,hon];simp[hsum]
   have hsb:((dl.length:Int)+((r.L k).done.length:Int) == 0)=false:=by simpa using hsum
   go_upto_region 33 with fail
   have HD1:=J6 (HD.out.trans (if_neg (by rw[hnq.out];simp)))
   have HF33:Hid (∀ wx,Bl w2 wx->wx.cell? ⟨g,0,none⟩=some (.int .i64 r.h)/\wx.cell? ⟨g,o+5,none⟩=some (J1 Ad (r.L k).done.length Cd0)):=fun wx hb=>by
    obtain⟨b0,-,-,b5⟩:=HF2.out wx hb;exact⟨b0,b5⟩
   have HEN:Hid (∀ wx,Bl w2 wx->Calls prog 52 #[J4 #[.int .i64 1,.int .i64 r.h,.int .i64 0,.int .i64 0,J1 Au dl.length Cu,J1 Ad (r.L k).done.length Cd0]] wx fun e w'=>e=.returned (.tuple #[.string (Cd.encS 1 r.h 0 0 dl (r.L k).done),.int .i64 (Cd.z0o 1 r.h 0 0 dl (r.L k).done)])/\Bl wx w'):=fun wx hb=>by
    have q2:=(((H5.out.2.1.lk k hlt).done.over H2.out.2).over hb).mono (P':=fun _=>True) fun _ _ _=>trivial;rw[HE.out.2.2]at q2;have q1:=(H2.out.1.over hb).mono (P':=fun _=>True) fun _ _ _=>trivial;obtain⟨A1,C1,A2,C2,sb,so,db,dO,z1,z2,hL⟩:=Rep.lies q1 q2;cases z1;cases z2;exact Cd.q6x 1 r.h 0 0 dl (r.L k).done Au Ad Cu Cd0 sb so db dO wx hL
   generalize Cd.encS 1 r.h 0 0 dl (r.L k).done=es at *;generalize Cd.z0o 1 r.h 0 0 dl (r.L k).done=E0 at *;clear HD HQB hnq a0 a4 a5 hws;apply z2d (fun w'=>Bl w2 w')
   ·refine wp_region_noPanic ?_;refine wp_region_held_drew (S:=fun wx=>Bl w2 wx) (by kernel_rfl) (Below.refl _ _).drew (fun hS=>?_)
    refine O.Z 0 (J2 (some ⟨g,0,none⟩)) 144 rfl rfl hS (fun wx hSw=>?_) ?_
    ·try dsimp only at hSw
     go_simp
    simp only[O.pp,O.pb,O.pc];refine O.Z 1 (.int .i64 r.h) 145 rfl rfl hS (fun wx hSw=>?_) ?_
    ·try dsimp only at hSw
     obtain⟨f0,f5⟩:=HF33.out wx hSw;go_simp
    simp only[O.pp,O.pb,O.pc];refine O.Z 2 (J1 Au dl.length Cu) 146 rfl rfl hS (fun wx hSw=>?_) ?_
    ·try dsimp only at hSw
     go_simp
    simp only[O.pp,O.pb,O.pc];refine O.Z 3 (J2 (some ⟨g,o,none⟩)) 147 rfl rfl hS (fun wx hSw=>?_) ?_
    ·try dsimp only at hSw
     go_simp
    simp only[O.pp,O.pb,O.pc];refine O.Z 4 (J2 (some ⟨g,o,none⟩)) 148 rfl rfl hS (fun wx hSw=>?_) ?_
    ·try dsimp only at hSw
     go_simp
    simp only[O.pp,O.pb,O.pc];refine O.Z 5 (J2 (some ⟨g,o+5,none⟩)) 149 rfl rfl hS (fun wx hSw=>?_) ?_
    ·try dsimp only at hSw
     go_simp
    simp only[O.pp,O.pb,O.pc];refine O.Z 6 (J1 Ad (r.L k).done.length Cd0) 150 rfl rfl hS (fun wx hSw=>?_) ?_
    ·try dsimp only at hSw
     obtain⟨f0,f5⟩:=HF33.out wx hSw;go_simp
    simp only[O.pp,O.pb,O.pc];refine O.Z 7 (J4 #[.int .i64 1,.int .i64 r.h,.int .i64 0,.int .i64 0,J1 Au dl.length Cu,J1 Ad (r.L k).done.length Cd0]) 151 rfl rfl hS (fun wx hSw=>?_) ?_
    ·try dsimp only at hSw
     go_simp
    simp only[O.pp,O.pb,O.pc];refine wpAnyH_ready (rs:=[8]) (by kernel_rfl) (by simp) ?_
    refine AllReadyH.cons rfl (fun K hK=>?_) AllReadyH.nil;go_simp
    go_at_call 52
    refine (HEN.out _ (by exact hS)).mono ?_
    rintro e w3⟨rfl,hb3⟩;replace hS:=zbt hS hb3;dsimp only;refine hK.out _ _ hS (fun hS=>?_);clear hK K
    try simp only[O.pp,O.pb,O.pc]
    refine O.Z 9 (.tuple #[.string es,.int .i64 E0]) 143 rfl rfl hS (fun wx hSw=>?_) ?_
    ·try dsimp only at hSw
     go_simp
    simp only[O.pp,O.pb,O.pc];refine O.Z 10 (.string es) 153 rfl rfl hS (fun wx hSw=>?_) ?_
    ·try dsimp only at hSw
     go_simp
    simp only[O.pp,O.pb,O.pc];refine O.Z 11 (.int .i64 E0) 154 rfl rfl hS (fun wx hSw=>?_) ?_
    ·try dsimp only at hSw
     go_simp
    simp only[O.pp,O.pb,O.pc];refine O.Z 12 (.string es) 19 rfl rfl hS (fun wx hSw=>?_) ?_
    ·try dsimp only at hSw
     go_simp
    simp only[O.pp,O.pb,O.pc];refine O.Z 13 (.int .i64 E0) 20 rfl rfl hS (fun wx hSw=>?_) ?_
    ·try dsimp only at hSw
     go_simp
    simp only[O.pp,O.pb,O.pc];refine wpAnyH_done (by kernel_rfl) ?_ _
    exact NoPanic.normal ⟨rfl,rfl,hS⟩
   intro w3 b3;have HB3:=J6 (zbt H2.out.2 b3);clear b3 HF33 HEN HF2 H2;simp only[Exit.then];apply_assumption
   by_cases hE:E0=0
   rotate_left
   ·have hq:Hid (z1B r k=r):=HD1.out.trans (if_neg hE);have hE':(E0 != 0)=true:=by simpa using hE
    clear HD1;go_wp2;go_roundw
    case rel=>exact⟨k+1,by omega,by go_num,by rw[HST.out,hq.out];exact HQR.out _ HB3.out⟩
    case measure=>simp[intOf];omega
   subst hE;replace HD1:=J6 (HD1.out.trans (if_pos rfl));have hsz3:=HB3.out.size;obtain⟨Ae,ne,Ce,ee⟩:=(H5.out.2.1.lk k hlt).said.one';obtain⟨Af,nf,Cf,ef⟩:=(H5.out.2.1.lk k hlt).due.one';have HSY:=J6 (z9V (r.L k).out es (now+40) (v.l k).said (v.l k).due (fun b=>Q5 b/\b<wr.heap.size) w3 (((H5.out.2.1.lk k hlt).said.mono fun b hl h=>⟨h,hl⟩).over HB3.out) (((H5.out.2.1.lk k hlt).due.mono fun b hl h=>⟨h,hl⟩).over HB3.out));rw[ee,ef]at HSY;have C3:=H5.out.1.over HB3.out;have hf3:=(C3.lk hlt).facts;rw[<- HO.out,ee,ef]at hf3;obtain⟨-,-,-,-,-,-,g6,g7',g8,g9⟩:=hf3;have hwr:IntKind.i64.wrap (now+40)=now+40:=z5V (by omega) (by omega)
   generalize Ln.z5z (r.L k).out es (now+40)=x at *;generalize Ln.z4M (r.L k).out (now+40)=E1 at *;generalize (r.L k).out.g=gg at *;generalize (r.L k).out.cl=gc at *;have HS3:=J6 hsz3;have hg3:=C3.lt;clear C3 hsz3
   go_upto_region 36 with (go_at_call 53;refine HSY.out.mono ?_;rintro e wb⟨u1,u2,rfl,U1,U3,hbb⟩;obtain⟨A1,n1,K1,rfl⟩:=U1.one';obtain⟨A2,n2,K2,rfl⟩:=U3.one';obtain⟨wS,sA,hST⟩:=z8S (P:=Q5) HS3.out (Nat.le_refl _) U1 U3 hbb;unfold Z4 at sA;have HST7:=J6 hST;have hgne7:g≠wb.heap.size:=Nat.ne_of_lt (Nat.lt_of_lt_of_le hg3 hbb.size);clear hST U1 U3 hbb g6 g7' g8 g9;dsimp only)
   generalize wb.heap.size=g7 at *;have HB7:=J6 (zbt HB3.out HST7.out.bel)
   by_cases hE1:E1=0
   rotate_left
   ·have hq:Hid (z1B r k=r):=HD1.out.trans (if_neg hE1);have hE':(E1 != 0)=true:=by simpa using hE1
    clear HD1;go_wp2;go_roundw
    case rel=>exact⟨k+1,by omega,by go_num,by rw[HST.out,hq.out];exact HQR.out _ HB7.out⟩
    case measure=>simp[intOf];omega
   subst hE1;replace HD1:=J6 (HD1.out.trans (if_pos rfl))
   have HQN:Hid (∀ b,New Q5 wr 0 b->New P w1 0 b):=fun b h=>by
    rcases h with⟨h,_⟩ | h
    ·exact H5.out.2.2.1 b h
    ·exact .inr (by have:=H5.out.2.2.2.2.size;omega)
   have hgne:g≠g7:=hgne7;have ho66:66<=o:=by have:=HO.out;omega
   have HF37:Hid (∀ wx,Bl wS wx->LnK g g7 (J1 A1 n1 K1) (J1 A2 n2 K2) (.int .i64 x.g) (J3 x.cl) (J1 As ns Cs) wx):=fun wx hb=>by
    have X:=HST7.out.cat.over hb;have C:=(H5.out.1.over HB7.out).over hb;exact⟨X.cell 0,X.cell 1,X.cell 2,X.cell 3,by rw[<- HE.out.2.1];exact C.cell 65⟩
   have HSE:Hid (∀ wx,Bl wS wx->Rep Q5 wx (J1 As ns Cs) 2 16 (pwC r.set)):=fun wx hb=>by
    have:=(H5.out.2.1.set.over HB7.out).over hb;rw[HE.out.2.1]at this;exact this
   have HSR:=J6 (fun (wx:World) (hb:Bl wS wx)=>(HSE.out wx hb).src);have HTR:=J6 (fun (wx:World) (AT:Option Addr) (CT:Nat) (w8:World) (hb:Bl wS wx) (hcp:Cd.z1Z wx As ns 2 AT CT w8)=>Rep.copied (HSE.out wx hb) (by decide) hcp (fun _ _=>rfl))
   go_upto_region 37 with fail
   apply z7z (fun AT CT w'=>TQu P w1 g (z1B r k) w')
   ·refine wp_region_noPanic ?_;have hBl:Bl wS wS.drew:=(Below.refl _ _).drew;refine wp_region_held_drew (S:=LnK g g7 (J1 A1 n1 K1) (J1 A2 n2 K2) (.int .i64 x.g) (J3 x.cl) (J1 As ns Cs)) (by kernel_rfl) (HF37.out _ hBl) (fun hS=>?_)
    refine O.Z 0 (J2 (some ⟨g,o,none⟩)) 170 rfl rfl hS (fun wx hSw=>?_) ?_
    ·try dsimp only at hSw
     go_simp
    simp only[O.pp,O.pb,O.pc];refine O.Z 1 (J2 (some ⟨g,o,none⟩)) 171 rfl rfl hS (fun wx hSw=>?_) ?_
    ·try dsimp only at hSw
     go_simp
    simp only[O.pp,O.pb,O.pc];refine O.Z 2 (J2 (some ⟨g,o,none⟩)) 172 rfl rfl hS (fun wx hSw=>?_) ?_
    ·try dsimp only at hSw
     go_simp
    simp only[O.pp,O.pb,O.pc];refine O.Z 3 (J2 (some ⟨g,o,none⟩)) 173 rfl rfl hS (fun wx hSw=>?_) ?_
    ·try dsimp only at hSw
     go_simp
    simp only[O.pp,O.pb,O.pc];refine O.Z 4 (J4 #[J1 A1 n1 K1,J1 A2 n2 K2,.int .i64 x.g,J3 x.cl]) 174 rfl rfl hS (fun wx hSw=>?_) ?_
    ·try dsimp only at hSw
     obtain⟨l0,l1,l2,l3,l65⟩:=hSw;go_simp
    simp only[O.pp,O.pb,O.pc];refine O.Z 5 (J2 (some ⟨g,65,none⟩)) 175 rfl rfl hS (fun wx hSw=>?_) ?_
    ·try dsimp only at hSw
     go_simp
    simp only[O.pp,O.pb,O.pc];refine O.Z 6 (J1 As ns Cs) 176 rfl rfl hS (fun wx hSw=>?_) ?_
    ·try dsimp only at hSw
     obtain⟨l0,l1,l2,l3,l65⟩:=hSw;go_simp
    simp only[O.pp,O.pb,O.pc];refine wpAnyH_ready (rs:=[7]) (by kernel_rfl) (by simp) ?_
    refine AllReadyH.cons rfl (fun K hK=>?_) AllReadyH.nil;refine Cd.z3U rfl rfl _ _ rfl As ns Cs rfl rfl (HSR.out _ (by exact hBl)) ?_
    intro AT CT w8 hcp;have T8:=HTR.out _ _ _ _ (by exact hBl) hcp
    replace hBl:=zbt hBl hcp.below;clear hcp;refine hK.out _ _ (HF37.out _ hBl) (fun hS=>?_);clear hK K;simp only[Act.put,List.setIfInBounds_toArray];refine O.Z 8 (J2 (some ⟨g,o,none⟩)) 178 rfl rfl hS (fun wx hSw=>?_) ?_
    ·try dsimp only at hSw
     go_simp
    simp only[Act.put];refine O.Z 9 (J2 (some ⟨g,o+6,none⟩)) 179 rfl rfl hS (fun wx hSw=>?_) ?_
    ·try dsimp only at hSw
     go_simp
    simp only[Act.put];have C8:=(H5.out.1.over HB7.out).over hBl;have P8:=(H5.out.2.1.z2w HB7.out 0).over hBl;have A8:=(H5.out.2.2.2.2.trans (Alt.of HB7.out)).trans (Alt.of hBl);have R18:=(HST7.out.r1.mono (P':=New Q5 wr 0) fun b _ h=>h.1).over hBl;have R28:=(HST7.out.r2.mono (P':=New Q5 wr 0) fun b _ h=>h.1).over hBl;have T88:=T8.mono (P':=New Q5 wr 0) fun b _ h=>.inr (by have:=HB7.out.size;have e9:wS.drew.heap.size=wS.heap.size:=rfl;omega)
    have HTQ:=J6 (q2o (P:=P) hlt HO.out C8 P8 (z1t H5.out.2.2.2.1 hg5) HQN.out A8 (x:=x) R18 R28 T88)
    have sN:(z5E (J2 (some ⟨g,o+6,none⟩)) (J4 #[J1 A1 n1 K1,J1 A2 n2 K2,.int .i64 x.g,J3 x.cl])).run prog w8=.ok () (w8.setCells g (o+6) [J1 A1 n1 K1,J1 A2 n2 K2,.int .i64 x.g,J3 x.cl]):=
     run_storeAt_mid (P:=prog) w8 g (o+6) 37 #[J1 A1 n1 K1,J1 A2 n2 K2,.int .i64 x.g,J3 x.cl] (C8.there (o+6) 4 (by rw[z0c,HO.out];omega)) (by rw[z7q];rfl) (by simp[Value.oneCell'])
    have CL:CAt 47 (w8.setCells g (o+6) [J1 A1 n1 K1,J1 A2 n2 K2,.int .i64 x.g,J3 x.cl]) g (((((prC r v).setIfInBounds (o+6) (J1 A1 n1 K1)).setIfInBounds (o+7) (J1 A2 n2 K2)).setIfInBounds (o+8) (.int .i64 x.g)).setIfInBounds (o+9) (J3 x.cl)):=(((C8.set (o+6) _).set (o+7) _).set (o+8) _).set (o+9) _
    have hl:∀ j,j<6->∀ z,(lkL (r.L k) (v.l k))[j]?=some z->(w8.setCells g (o+6) [J1 A1 n1 K1,J1 A2 n2 K2,.int .i64 x.g,J3 x.cl]).cell? ⟨g,o+j,none⟩=some z:=fun j hj z hz=>by
     rw[CL.cell (o+j)];simp only[Array.getElem?_setIfInBounds];rw[if_neg (by omega),if_neg (by omega),if_neg (by omega),if_neg (by omega),HO.out,z2E k hlt j (by omega),hz]
    have q3:=hl 3 (by omega) _ rfl
    have q4:=hl 4 (by omega) _ rfl
    have q5:=hl 5 (by omega) _ rfl
    rw[HE.out.1]at q3;rw[HE.out.2.2]at q5;have z3:=CL.free (o+3);have z4:=CL.free (o+4);have z5:=CL.free (o+5);have hgL:=CL.lt;clear C8 P8 A8 R18 R28 T88 T8 hl CL;have hS6:=hS.sets hgne (o:=o+6) (by omega) [J1 A1 n1 K1,J1 A2 n2 K2,.int .i64 x.g,J3 x.cl]
    refine O.z1p (i:=10) (by kernel_rfl) rfl rfl (fun K hK=>?_)
    go_simp;refine hK _ _ hS6 ?_;clear hK K sN hS;have hS:=hS6;clear hS6;generalize w8.setCells g (o+6) [J1 A1 n1 K1,J1 A2 n2 K2,.int .i64 x.g,J3 x.cl]=wL at *;refine O.Z 11 (J2 (some ⟨g,o,none⟩)) 180 rfl rfl hS (fun wx hSw=>?_) ?_
    ·try dsimp only at hSw
     go_simp
    simp only[O.pp,O.pb,O.pc];refine O.Z 12 (J2 (some ⟨g,o+3,none⟩)) 181 rfl rfl hS (fun wx hSw=>?_) ?_
    ·try dsimp only at hSw
     go_simp
    simp only[O.pp,O.pb,O.pc];refine O.z1p (i:=13) (by kernel_rfl) rfl rfl (fun K hK=>?_)
    go_simp;replace hS:=hS.put hgne (o:=o+3) (by omega) (J1 AT ns CT)
    refine hK _ _ hS ?_;clear hK K;refine O.Z 14 (J2 (some ⟨g,o,none⟩)) 182 rfl rfl hS (fun wx hSw=>?_) ?_
    ·try dsimp only at hSw
     go_simp
    simp only[O.pp,O.pb,O.pc];refine O.Z 15 (J2 (some ⟨g,o+4,none⟩)) 183 rfl rfl hS (fun wx hSw=>?_) ?_
    ·try dsimp only at hSw
     go_simp
    simp only[O.pp,O.pb,O.pc];refine O.z1p (i:=16) (by kernel_rfl) rfl rfl (fun K hK=>?_)
    go_simp;replace hS:=hS.put hgne (o:=o+4) (by omega) (J3 false)
    refine hK _ _ hS ?_;clear hK K;refine O.Z 17 (J2 (some ⟨g,o,none⟩)) 184 rfl rfl hS (fun wx hSw=>?_) ?_
    ·try dsimp only at hSw
     go_simp
    simp only[O.pp,O.pb,O.pc];refine O.Z 18 (J2 (some ⟨g,o+5,none⟩)) 185 rfl rfl hS (fun wx hSw=>?_) ?_
    ·try dsimp only at hSw
     go_simp
    simp only[O.pp,O.pb,O.pc];refine O.z1p (i:=19) (by kernel_rfl) rfl rfl (fun K hK=>?_)
    go_simp;replace hS:=hS.put hgne (o:=o+5) (by omega) (J1 none 0 0)
    refine hK _ _ hS ?_;clear hK K;refine wpAnyH_done (by kernel_rfl) ?_ _
    exact NoPanic.normal ⟨AT,CT,rfl,rfl,by rw[HD1.out];exact HTQ.out⟩
   intro AT CT w9 hT;have HT9:=J6 hT;clear hT HF37 HSE HSR HTR HQN HST7 HSY
   try simp only[Exit.then]
   try apply_assumption
   try go_wp2
   go_roundw
   case rel=>exact⟨k+1,by omega,by go_num,by rw[HST.out];exact HT9.out⟩
   case measure=>simp[intOf];omega
end Pv
namespace Pv
open Go.RowKit
def q6U(v:Value):Sem Value:=Instr.loadAt 27 v
theorem q3m(v:Value):Instr.loadAt 27 v=q6U v:=rfl
theorem q2d{w:World}{b:Nat}{s:St}{sl:Value}(h:SAt w b (stC s sl)):(q6U (J2 (some ⟨b,7,none⟩))).run prog w=.ok (J4 (vsC s.V)) w:=by
 have:=run_loadAt_mid (P:=prog) w b 7 27 (vsC s.V).toList _ (z5J h) underlying27 rfl (by kernel_rfl)
 change (Instr.loadAt 27 _).run prog w=_
 simpa using this
theorem j1o(V:Nat->Vd)(w:World):(Instr.index 27 (J4 (vsC V)) (J I 0)).run prog w=.ok (J4 (vdC (V 0))) w:=by kernel_rfl
theorem j1b(V:Nat->Vd)(w:World):(Instr.index 27 (J4 (vsC V)) (J I 1)).run prog w=.ok (J4 (vdC (V 1))) w:=by kernel_rfl
theorem j1D(V:Nat->Vd)(w:World):(Instr.index 27 (J4 (vsC V)) (J I 2)).run prog w=.ok (J4 (vdC (V 2))) w:=by kernel_rfl
theorem j1E(V:Nat->Vd)(w:World):(Instr.index 27 (J4 (vsC V)) (J I 3)).run prog w=.ok (J4 (vdC (V 3))) w:=by kernel_rfl
theorem j1l(V:Nat->Vd)(w:World):(Instr.index 27 (J4 (vsC V)) (J I 4)).run prog w=.ok (J4 (vdC (V 4))) w:=by kernel_rfl
theorem j1x(V:Nat->Vd)(w:World):(Instr.index 27 (J4 (vsC V)) (J I 5)).run prog w=.ok (J4 (vdC (V 5))) w:=by kernel_rfl
theorem ixV(V:Nat->Vd){k:Nat}(hk:k<6)(w:World):(Instr.index 27 (J4 (vsC V)) (J I (k:Int))).run prog w=.ok (J4 #[J I (V k).tok,J I (V k).sh,J I (V k).lost,J3 (V k).jail,J3 (V k).dead]) w:=by
 rcases (show k=0∨k=1∨k=2∨k=3∨k=4∨k=5 by omega) with rfl | rfl | rfl | rfl | rfl | rfl
 ·exact j1o V w
 ·exact j1b V w
 ·exact j1D V w
 ·exact j1E V w
 ·exact j1l V w
 ·exact j1x V w
def pN(n:Nat->Int)(k:Nat):Nat->Int:=fun i=>if i<k then n i else 0
theorem q8B(n:Nat->Int){k:Nat}(hk:k<6):Df.z7v (pN n k) ((k:Int),n k)=pN n (k+1):=by
 funext i
 rw[Df.z2A hk];unfold pN
 by_cases e:i=k
 ·subst e;rw[if_pos rfl,if_pos (by omega)]
 ·rw[if_neg e]
  by_cases h:i<k
  ·rw[if_pos h,if_pos (by omega)]
  ·rw[if_neg h,if_neg (by omega)]
theorem q8h(n:Nat->Int){k:Nat}(h0:n k=0):pN n k=pN n (k+1):=by
 funext i
 unfold pN
 by_cases h:i<k
 ·rw[if_pos h,if_pos (by omega)]
 ·rw[if_neg h]
  by_cases e:i=k
  ·subst e;rw[if_pos (by omega),h0]
  ·rw[if_neg (by omega)]
attribute [local go_sem ↓] q3m
theorem q4N(s:St)(u:Value)(w:World)(ht:∀ k,k<6->0<=(s.V k).tok/\(s.V k).tok<=1125899906842624) :
  Calls prog 50 #[J4 (stC s u)] w fun e w'=>∃ v,e=.returned v/\Rep (fun b=>w.heap.size<=b) w' v 2 16 (pwC (z4Y s.V))/\Bl w w':=by
 obtain⟨i0,hi,hz0,hz1,hz2⟩:=info_parts z9H;rw[<- q6d (fun k hk=>(ht k hk).1) (fun k hk=>(ht k hk).2)];have HN:Hid (∀ k,nP s.V k=if (s.V k).jail=true then 0 else (s.V k).tok / 100):=fun k=>rfl;have HT:=J6 ht;have HIX:=J6 (fun (k:Nat) (hk:k<6) (wx:World)=>ixV s.V hk wx);have HL6:=J6 (Df.z1W (fun v=>decide (0<nP s.V v) && decide (ahN (nP s.V) v 6<4)) (nP s.V) 6);unfold q5x;generalize nP s.V=n at *;clear ht
 go_enter func50,ntmps50
 go_upto_region 2 with fail
 have S0:SAt ((w.alloc (J5 (stC s u) 32)).alloc (J5 #[.int .i64 0,.int .i64 0,.int .i64 0,.int .i64 0,.int .i64 0,.int .i64 0] 28)) w.heap.size (stC s u):=(Below.heap_alloc _ _ _ (by simp)).trans (heap_alloc_new _ _)
 have Q0:Df.QAt ((w.alloc (J5 (stC s u) 32)).alloc (J5 #[.int .i64 0,.int .i64 0,.int .i64 0,.int .i64 0,.int .i64 0,.int .i64 0] 28)) (w.heap.size+1) (pN n 0):=by
  have:=Df.QAt.new (w.alloc (J5 (stC s u) 32)) (pN n 0);rw[show (w.alloc (J5 (stC s u) 32)).heap.size=w.heap.size+1 by simp]at this
  exact this
 have B0:Bl w ((w.alloc (J5 (stC s u) 32)).alloc (J5 #[.int .i64 0,.int .i64 0,.int .i64 0,.int .i64 0,.int .i64 0,.int .i64 0] 28)):=(znw w _).alloc (by simp) _
 generalize (w.alloc (J5 (stC s u) 32)).alloc (J5 #[.int .i64 0,.int .i64 0,.int .i64 0,.int .i64 0,.int .i64 0,.int .i64 0] 28)=w0 at *;have lv:=q2d S0;have H0:=J6 (show _/\_ from⟨Q0,B0⟩);clear S0 Q0 B0;generalize vsC s.V=VS at *
 go_upto_region 3 with fail
 go_loopw [12] (fun i wl=>∃ k:Nat,k<=6/\i=.int .i64 (k:Int)/\Hid (Df.QAt wl (w.heap.size+1) (pN n k)/\Bl w wl)) (fun i _=>(6 - intOf i).toNat)
 case atStart=>exact⟨0,by omega,rfl,H0.out⟩
 case round =>
  obtain⟨k,hk,rfl,HR⟩:=hrel
  by_cases hk6:k<6
  ·have hkk:(k:Int)<6:=by omega
   have hk0:(0:Int)<=(k:Int):=by omega
   have hix:=fun wx=>HIX.out k hk6 wx;obtain⟨t0,t1⟩:=HT.out k hk6;have hnk:=HN.out k;have hlt1:=HR.out.1.lt;have q1:=HR.out.1.one hk6;have f1:=HR.out.1.facts.2 k;have hq:IntKind.i64.wrap ((s.V k).tok.tdiv 100)=(s.V k).tok / 100:=by rw[Int.tdiv_eq_ediv_of_nonneg t0];exact z5V (by omega) (by omega)
   have hdv:=HR.out.2.size;cases hj:(s.V k).jail
   ·rw[hj,if_neg (by simp)]at hnk
    have Q2:=(HR.out.1.put hk6 (n k)).alloc (J5 #[.int .i64 (s.V k).tok,.int .i64 (s.V k).sh,.int .i64 (s.V k).lost,J3 false,J3 (s.V k).dead] 26);rw[q8B n hk6,hnk]at Q2;have B2:=(HR.out.2.setCell (p:=⟨w.heap.size+1,k,none⟩) (by show w.heap.size<=w.heap.size+1;omega) (.int .i64 ((s.V k).tok / 100))).alloc (by simp[World.setCell];exact HR.out.2.size) (J5 #[.int .i64 (s.V k).tok,.int .i64 (s.V k).sh,.int .i64 (s.V k).lost,J3 false,J3 (s.V k).dead] 26)
    have HZ:=J6 (show _/\_ from⟨Q2,B2⟩);have HNK:=J6 hnk;rw[hj]at hix;clear Q2 B2 HR hnk hj;generalize pN n k k=z0 at *;go_wp2;exact⟨⟨k+1,by omega,by go_num,HZ.out⟩,by simp[intOf];omega⟩
   ·rw[hj,if_pos rfl]at hnk;have Q2:=HR.out.1.alloc (J5 #[.int .i64 (s.V k).tok,.int .i64 (s.V k).sh,.int .i64 (s.V k).lost,J3 true,J3 (s.V k).dead] 26);rw[q8h n hnk]at Q2;have B2:=HR.out.2.alloc HR.out.2.size (J5 #[.int .i64 (s.V k).tok,.int .i64 (s.V k).sh,.int .i64 (s.V k).lost,J3 true,J3 (s.V k).dead] 26);have HZ:=J6 (show _/\_ from⟨Q2,B2⟩);rw[hj]at hix;clear Q2 B2 HR hnk hj;generalize pN n k k=z0 at *;go_wp2;exact⟨⟨k+1,by omega,by go_num,HZ.out⟩,by simp[intOf];omega⟩
  ·obtain rfl:k=6:=by omega
   have Q3:Df.QAt wr (w.heap.size+1) n:=HR.out.1;have B3:=HR.out.2;have HX:=J6 (show _/\_ from⟨Q3,B3⟩);have z3:w.heap.size+1<wr.heap.size:=Q3.lt;clear Q3 B3 HR H0 HIX HT HN lv;obtain⟨w3,rfl⟩:∃ w3,w3=wr:=⟨_,rfl⟩
   go_upto_region 10 with fail
   go_loopw [6,25] (fun v i wl=>∃ k:Nat,k<=6/\i=.int .i64 (k:Int)/\Hid (z3w wl w3.heap.size v (Df.those (fun v=>decide (0<n v) && decide (ahN n v 6<4)) n k))/\Hid (Bl w3 wl)) (fun _ i _=>(6 - intOf i).toNat)
   case atStart=>exact⟨0,by omega,rfl,z3w.nil _ _,Below.refl _ _⟩
   case round =>
    obtain⟨k,hk,rfl,HOW,HB⟩:=hrel
    by_cases hk6:k<6
    ·have hkk:(k:Int)<6:=by omega
     have hk0:(0:Int)<=(k:Int):=by omega
     have HC:=J6 (Df.z1j (fun v=>decide (0<n v) && decide (ahN n v 6<4)) n k);have hlen:=Df.z1W (fun v=>decide (0<n v) && decide (ahN n v 6<4)) n k;obtain⟨w4,rfl⟩:∃ w4,w4=wr:=⟨_,rfl⟩
     go_upto_region 14 with fail
     go_loopw [8,28] (fun a j wl=>∃ m:Nat,m<=6/\j=.int .i64 (m:Int)/\a=.int .i64 (ahN n k m:Int)/\Hid (z3w wl w3.heap.size u6 (Df.those (fun v=>decide (0<n v) && decide (ahN n v 6<4)) n k)/\Bl w3 wl)) (fun _ j _=>(6 - intOf j).toNat)
     case atStart=>exact⟨0,by omega,rfl,rfl,HOW.out,HB.out⟩
     case round =>
      obtain⟨m,hm,rfl,rfl,HD⟩:=hrel;have hbq:Bl w3 wr:=HD.out.2;have ck:wr.cell? ⟨w.heap.size+1,k,none⟩=some (.int .i64 (n k)):=(HX.out.1.later hbq z3).one hk6;have hA:=q6S n k m
      by_cases hm6:m<6
      ·have hmm:(m:Int)<6:=by omega
       have hm0:(0:Int)<=(m:Int):=by omega
       have cm:wr.cell? ⟨w.heap.size+1,m,none⟩=some (.int .i64 (n m)):=(HX.out.1.later hbq z3).one hm6;have HS:Hid (ahN n k (m+1)=if n k<n m∨(n m=n k/\m<k) then ahN n k m+1 else ahN n k m):=rfl;generalize ahN n k m=A at *;generalize n m=nm at *;generalize n k=nk at *;have hz4:w.heap.size+1<wr.heap.size:=by have:=hbq.size;omega
       have HBQ:=J6 hbq;clear hbq
       by_cases h1:nk<nm
       ·have HS1:Hid (ahN n k (m+1)=A+1):=by rw[Hid,HS.out,if_pos (.inl h1)]
        go_upto_region 16 with fail
        go_quiet (fail);simp only[Exit.then];apply_assumption;go_wp2;go_roundw
        case rel=>exact⟨m+1,by omega,by go_num,by rw[HS1.out];go_num,HD.out.1,below_drewN HBQ.out nq⟩
        case measure=>simp[intOf];omega
       ·by_cases h2:nm=nk
        ·subst h2
         by_cases h3:m<k
         ·have HS1:Hid (ahN n k (m+1)=A+1):=by rw[Hid,HS.out,if_pos (.inr ⟨rfl,h3⟩)]
          have h3':(m:Int)<(k:Int):=by omega
          go_upto_region 16 with fail
          go_quiet (fail);simp only[Exit.then];apply_assumption;go_wp2;go_roundw
          case rel=>exact⟨m+1,by omega,by go_num,by rw[HS1.out];go_num,HD.out.1,below_drewN HBQ.out nq⟩
          case measure=>simp[intOf];omega
         ·have HS1:Hid (ahN n k (m+1)=A):=by rw[Hid,HS.out,if_neg (by omega)]
          have h3':¬ (m:Int)<(k:Int):=by omega
          go_upto_region 16 with fail
          go_quiet (fail);simp only[Exit.then];apply_assumption;go_wp2;go_roundw
          case rel=>exact⟨m+1,by omega,by go_num,by rw[HS1.out],HD.out.1,below_drewN HBQ.out nq⟩
          case measure=>simp[intOf];omega
        ·have HS1:Hid (ahN n k (m+1)=A):=by rw[Hid,HS.out,if_neg (by omega)]
         have h2':(nm == nk)=false:=by simpa using h2
         go_upto_region 16 with fail
         go_quiet (fail);simp only[Exit.then];apply_assumption;go_wp2;go_roundw
         case rel=>exact⟨m+1,by omega,by go_num,by rw[HS1.out],HD.out.1,below_drewN HBQ.out nq⟩
         case measure=>simp[intOf];omega
      ·obtain rfl:m=6:=by omega
       generalize ahN n k 6=A at *;generalize n k=nk at *;have hown:=HD.out.1;have HBQ:=J6 hbq;have hz4:w.heap.size+1<wr.heap.size:=by have:=hbq.size;omega
       clear hbq HOW HB HD;have hsz2:w3.heap.size<=wr.heap.size:=HBQ.out.size
       by_cases hp:0<nk
       ·by_cases h4:A<4
        ·have h4':(A:Int)<4:=by omega
         go_wp2_with (at_builtin;refine wpList_append_own_at _ rfl _ _ 33 rfl w3.heap.size 74 i0 (J4 #[.int .i64 0,.int .i64 0]) 2 16 underlying33 hi hz0 hz1 hz2 rfl (by decide) _ _ _ rfl (World.ownsRow.alloc hown _) ⟨wr.heap.size,0,none⟩ 1 1 [.int .i64 (k:Int),.int .i64 nk] rfl rfl (z7h _ _ _ _) (by intro u hu;simp at hu;rcases hu with rfl | rfl <;> rfl) (by unfold maxLen;omega) (by omega) (by simp;omega) ?_;intro v' w1 hown' hgrow _ hat)
         have hb:Bl w3 w1:=z3w.grow hown HBQ.out hgrow (Nat.le_refl _) hsz2;go_roundw
         case rel=>have HP:Hid (z3w w1 w3.heap.size v' (Df.those (fun v=>decide (0<n v) && decide (ahN n v 6<4)) n (k+1))):=(by rw[Hid,HC.out,if_pos (by simp[hp,h4])];exact z3w.append hown' rfl);first | exact⟨k+1,by omega,by go_num,HP,hb⟩ | ((repeat apply Exists.intro);exact⟨⟨k+1,by omega,by go_num,HP,hb⟩,rfl⟩)
         case measure=>simp[intOf];omega
        ·have h4':¬ (A:Int)<4:=by omega
         have HOW2:=J6 hown;clear hown;go_wp2;go_roundw
         case rel=>exact⟨k+1,by omega,by go_num,by rw[HC.out,if_neg (by simp[h4])];exact HOW2.out,HBQ⟩
         case measure=>simp[intOf];omega
       ·have HOW2:=J6 hown;clear hown;go_wp2;go_roundw
        case rel=>exact⟨k+1,by omega,by go_num,by rw[HC.out,if_neg (by simp[hp])];exact HOW2.out,HBQ⟩
        case measure=>simp[intOf];omega
    ·obtain rfl:k=6:=by omega
     go_wp2;go_ret;have h6:=HL6.out;exact⟨_,rfl,(Rep.j0C HOW.out (by omega)).mono fun b _ h=>by have:=HX.out.2.size;omega,zbt HX.out.2 HB.out⟩
end Pv
namespace Pv
open Go.RowKit
theorem j1t(w:World)(a0 a1 a2 a3 a4 a5 a6 a7 a8 a9 a10 a11 a12 a13 a14 a15 a16 a17 a18 a19 a20 a21 a22 a23 a24 a25 a26 a27:Value):(Instr.index 42 (J4 #[a0,a1,a2,a3,a4,a5,a6,a7,a8,a9,a10,a11,a12,a13,a14,a15,a16,a17,a18,a19,a20,a21,a22,a23,a24,a25,a26,a27]) (J I 0)).run prog w=.ok (J4 #[a0,a1,a2,a3,a4,a5,a6,a7,a8,a9,a10,a11,a12,a13]) w:=by kernel_rfl
theorem j1C(w:World)(a0 a1 a2 a3 a4 a5 a6 a7 a8 a9 a10 a11 a12 a13 a14 a15 a16 a17 a18 a19 a20 a21 a22 a23 a24 a25 a26 a27:Value):(Instr.index 42 (J4 #[a0,a1,a2,a3,a4,a5,a6,a7,a8,a9,a10,a11,a12,a13,a14,a15,a16,a17,a18,a19,a20,a21,a22,a23,a24,a25,a26,a27]) (J I 1)).run prog w=.ok (J4 #[a14,a15,a16,a17,a18,a19,a20,a21,a22,a23,a24,a25,a26,a27]) w:=by kernel_rfl
theorem ixL(w:World)(p:Pr)(v:PrV)(k:Nat)(hk:k<2):(Instr.index 42 (J4 (lkL (p.L 0) (v.l 0) ++ lkL (p.L 1) (v.l 1)).toArray) (J I (k:Int))).run prog w=.ok (J4 (lkL (p.L k) (v.l k)).toArray) w:=by
 match k,hk with
 | 0,_=>exact j1t w _ _ _ _ _ _ _ _ _ _ _ _ _ _ _ _ _ _ _ _ _ _ _ _ _ _ _ _
 | 1,_=>exact j1C w _ _ _ _ _ _ _ _ _ _ _ _ _ _ _ _ _ _ _ _ _ _ _ _ _ _ _ _
theorem q7Z:(prog.info? 42).map (·.size)=some 28:=by kernel_rfl
theorem q6m{w:World}{b:Nat}{p:Pr}{v:PrV}(h:CAt 47 w b (prC p v)):w.rangeAt b 66 (lkL (p.L 0) (v.l 0) ++ lkL (p.L 1) (v.l 1)):=h.part fun j x hx=>by
 have hj:j<28:=(List.getElem?_eq_some_iff.1 hx).1
 by_cases h14:j<14
 ·rw[List.getElem?_append_left (by exact h14)]at hx
  have:=z2E (p:=p) (v:=v) 0 (by omega) j h14
  rw[Nat.zero_mul,Nat.add_zero]at this;rw[this];exact hx
 ·obtain⟨i,rfl⟩:∃ i,j=14+i:=⟨j - 14,by omega⟩
  rw[List.getElem?_append_right (by show 14<=_;omega)]at hx
  have e:14+i - (lkL (p.L 0) (v.l 0)).length=i:=by show 14+i - 14=i;omega
  rw[e]at hx;have:=z2E (p:=p) (v:=v) 1 (by omega) i (by omega)
  rw[show 66+1 * 14+i=66+(14+i) by omega]at this
  rw[this];exact hx
attribute [local go_sem ↓] z0O
set_option maxRecDepth 1000000 in
theorem q2q(p:Pr)(v:PrV)(P:Nat->Prop)(w:World)(hp:PIn P w p v) :
  Calls prog 45 #[J4 (prC p v)] w fun e w'=>e=.returned (J3 (z1s p))/\Bl w w':=by
 have HG:=J6 (z9U p);generalize z1s p=G at *;obtain⟨Aw,Cw,bw,ow,ews,Ws,-,-⟩:=hp.ws.z8v;have hgs:=fun (wx:World) (hb:Bl w wx)=>z4O p.s Aw bw ow Cw wx (Ws.over hb);rw[<- ews]at hgs;have HGS:=J6 hgs;have HP:=J6 hp;clear hp hgs ews Ws;obtain⟨cs,hcs⟩:∃ cs,prC p v=cs:=⟨_,rfl⟩;rw[hcs];have HCS:=J6 hcs;clear hcs
 go_enter func45,ntmps45
 go_upto_region 1 with fail
 have C1:CAt 47 (w.alloc (J5 cs 47)) w.heap.size (prC p v):=by rw[HCS.out];exact CAt.new _ w cs
 have B1:Bl w (w.alloc (J5 cs 47)):=znw w _;generalize w.alloc (J5 cs 47)=w1 at *;have HX:=J6 (show _/\_ from⟨C1,B1⟩);obtain⟨⟨a0,a1,a2,a3,a4,a5⟩,a6⟩:=z0E C1;clear C1 B1 HCS
 by_cases h1:z0j p.s=true/\0<=p.h/\p.h<=1099511627775/\0<=p.t/\p.t<=1099511627776/\z2h (-1) p.set=true
 ·obtain⟨q1,q2,q3,q4,q5,q6⟩:=h1;have HONE:=J6 (show (z0j p.s && decide (0<=p.h) && decide (p.h<=1099511627775) && decide (0<=p.t) && decide (p.t<=1099511627776) && z2h (-1) p.set)=true by simp[q1,q2,q3,q4,q5,q6])
  have HST:=J6 (fun wx hb=>z5p p.set v.set P wx (HP.out.set.over hb));rw[q1]at HGS;rw[q6]at HST;clear q1 q6
  go_upto_region 3 with (first
   | (go_at_call 91;refine (HGS.out _ HX.out.2).mono ?_;rintro e w2⟨rfl,hb2⟩;have HY:=J6 (show _/\_ from⟨HX.out.1.over hb2,zbt HX.out.2 hb2⟩);clear a0 a1 a2 a3 a4 a5 a6 hb2;obtain⟨⟨a0,a1,a2,a3,a4,a5⟩,a6⟩:=z0E HY.out.1)
   | (go_at_call 92;refine (HST.out _ HY.out.2).mono ?_;rintro e w3⟨rfl,hb3⟩;have HZ:=J6 (show _/\_ from⟨HY.out.1.over hb3,zbt HY.out.2 hb3⟩);clear a0 a1 a2 a3 a4 a5 a6 hb3))
  clear HGS HST HX HY
  go_upto_region 3 with fail
  apply wp_region_lit
  iterate 3 go_step
  refine wpList_load_mid rfl 42 _ rfl w.heap.size 66 rfl _ _ (q6m HZ.out.1) underlying42 rfl (by rw[q7Z];rfl) ?_
  have hix:=fun (wx:World) (k:Nat) (hk:k<2)=>ixL wx p v k hk;generalize (lkL (p.L 0) (v.l 0) ++ lkL (p.L 1) (v.l 1)).toArray=c28 at *;have HIX:=J6 hix;clear hix;go_simp
  go_upto_region 4 with fail
  go_loopw [42] (fun i wl=>∃ (k:Nat),k<=2/\i=J I (k:Int)/\Hid (Bl w3 wl)/\Hid (∀ c,c<k->z1L p.h (p.L c)=true)) (fun i _=>(2 - intOf i).toNat)
  case atStart=>exact⟨0,by omega,rfl,Below.refl _ _,fun c hc=>absurd hc (by omega)⟩
  case round =>
   obtain⟨k,hk,rfl,HB,HA⟩:=hrel
   by_cases hk2:k<2
   ·have hkk:(k:Int)<2:=by omega
    have hi1:=fun wx=>HIX.out wx k hk2;have hBw:Bl w wr:=zbt HZ.out.2 HB.out;have hl1:=(HP.out.lk k hk2).keep (w':=wr) fun b _ hlt=>hBw.block b hlt;have hone:((lkL (p.L k) (v.l k)).toArray).all (·.oneCell')=true:=by rw[Array.all_eq_true_iff_forall_mem];exact fun u hu=>z5S hl1 u (by simpa using hu)
    go_upto_region 5 with fail
    apply wp_region_lit
    iterate 6 go_step
    have CZ:=CAt.new 41 wr #[J3 false,J3 false,J I 0,J1 none 0 0,J3 false,J1 none 0 0,J1 none 0 0,J1 none 0 0,J I 0,J3 false,J I 0,J I 0,J I 0,J I 0];have BZ:Bl wr (wr.alloc (J5 #[J3 false,J3 false,J I 0,J1 none 0 0,J3 false,J1 none 0 0,J1 none 0 0,J1 none 0 0,J I 0,J3 false,J I 0,J I 0,J I 0,J I 0] 41)):=znw wr _;refine wpList_store_mid rfl 41 _ _ rfl wr.heap.size 0 (lkL (p.L k) (v.l k)).toArray rfl rfl (CZ.there 0 _ (by show 0+14<=14;omega)) (by rw[z6C];rfl) hone ?_
    have C5:=CAt.z0C (ds:=(lkL (p.L k) (v.l k)).toArray) CZ rfl;have B5:=z0b (b:=wr.heap.size) (Nat.le_refl _) ((lkL (p.L k) (v.l k)).toArray).toList 0 _ BZ;have hx4:w.heap.size<wr.heap.size:=Nat.lt_of_lt_of_le HZ.out.1.lt HB.out.size;generalize (wr.alloc (J5 #[J3 false,J3 false,J I 0,J1 none 0 0,J3 false,J1 none 0 0,J1 none 0 0,J1 none 0 0,J I 0,J3 false,J I 0,J I 0,J I 0,J I 0] 41)).setCells wr.heap.size 0 ((lkL (p.L k) (v.l k)).toArray).toList=w5 at *;have HL:=J6 hl1;have D5:=J6 (show _/\_/\_/\_ from⟨C5,(HZ.out.1.over HB.out).later B5 hx4,B5,zbt hBw B5⟩);have HBk:=J6 (zbt HB.out B5);clear C5 CZ BZ B5 hl1 hone hi1 hBw HB;obtain⟨Ad,Cd',ed,sd,-,cd,-⟩:=(HL.out.done.over D5.out.2.2.1).open (z0M _) (by decide)
    obtain⟨c0,c1,c2,c3,c4,c5,⟨c6,c7,c8,c9⟩,-⟩:=z2k D5.out.1;rw[ed]at c5;have HGk:=J6 (fun h=>HG.out.lks k hk2 h);have HDN:=J6 cd;have hdl:(p.L k).done.length<=17592186044405:=by omega
    clear cd sd;go_simp
    go_upto_region 8 with fail
    generalize hxk:p.L k=x at *;generalize v.l k=u at *;have HXK:=J6 hxk;clear hxk
    rename World=>w5
    go_loopw [5,48] (fun s5 i wl=>∃ (j:Nat) (last:Int),j<=x.done.length/\i=J I (j:Int)/\s5=J I last/\Hid (z1v (-1) x.done=z1v last (x.done.drop j))/\w5=wl) (fun _ i _=>x.done.length - (intOf i).toNat)
    case atStart=>exact⟨0,-1,Nat.zero_le _,rfl,rfl,rfl,rfl⟩
    case round =>
     obtain⟨j,last,hj,rfl,rfl,HR,hw5⟩:=hrel;subst hw5
     by_cases hlt:j<x.done.length
     ·have hjI:(j:Int)<(x.done.length:Int):=by omega
      obtain⟨y,hy,hd⟩:=z5l hlt;obtain⟨bd,od,rfl,-,-,hcell⟩:=HDN.out (by omega)
      have gy:x.done.getD j 0=y:=by simp[List.getD,hy]
      have e0:=hcell _ _ (z3f x.done j hlt);rw[gy]at e0;have HE:=J6 (show z1v (-1) x.done=((decide (last<y) && decide (y<=5)) && z1v y (x.done.drop (j+1))) by have:=HR.out;rw[hd]at this;exact this)
      clear hcell gy hy hd HR
      by_cases q1:last<y/\y<=5
      ·obtain⟨q1,q2⟩:=q1;have HE2:=J6 (show z1v (-1) x.done=z1v y (x.done.drop (j+1)) by rw[HE.out];simp[q1,q2])
       clear HE;go_wp2
       first | exact⟨⟨j+1,y,by omega,by go_num,rfl,HE2,(by first | rfl | trivial)⟩,by simp[intOf];omega⟩ | ((repeat apply Exists.intro);exact⟨⟨j+1,y,by omega,by go_num,rfl,HE2,(by first | rfl | trivial)⟩,rfl⟩)
      ·have e:G=false:=HGk.out (by
        have h9:z1v (-1) x.done=false:=by
         rw[HE.out];have:(decide (last<y) && decide (y<=5))=false:=by rw[Bool.eq_false_iff];intro h;simp at h;exact q1 h
         rw[this,Bool.false_and]
        simp only[z1L,h9,Bool.false_and])
       subst e;have HBz:=J6 D5.out.2.2.2;clear HE HG HGk HL D5 HBk HP HZ HA HIX HONE;have hcs:¬ last<y∨(last<y/\¬ y<=5):=by omega
       clear q1
       rcases hcs with q1 | ⟨q1,q2⟩
       all_goals
        go_wp2;go_ret;exact⟨rfl,HBz.out⟩
     ·obtain rfl:j=x.done.length:=by omega
      have hr:z1v (-1) x.done=true:=by have:=HR.out;rw[List.drop_length]at this;exact this
      clear HR HDN;have g0:=(z0E D5.out.2.1).1.1;obtain⟨A1,C1,A2,C2,sb,so,db,dO,es,eu,hL,-,-⟩:=z1I.line (HL.out.said.over D5.out.2.2.1) (HL.out.due.over D5.out.2.2.1);have hln:=fun (wx:World) (hb:Bl w5 wx)=>Ln.z0T x.out A1 A2 C1 C2 sb so db dO wx (hL.later hb);rw[<- es,<- eu]at hln;have HLN:=J6 hln;have HST:=J6 (fun (wx:World) (hb:Bl w5 wx)=>z5p x.told u.told P wx ((HL.out.told.over D5.out.2.2.1).over hb));have HE:=J6 D5.out.2.2.2;have HF:=HBk;clear hln es eu hL;have hGx:(!(x.on && x.gone) && decide (0<=x.base) && decide (x.base<=p.h) && z2h (-1) x.told && Ln.z1C x.out)=false->G=false:=fun h=>HGk.out (by simp only[z1L,h,Bool.and_false])
      have hGy:(!(x.on && x.gone) && decide (0<=x.base) && decide (x.base<=p.h) && z2h (-1) x.told && Ln.z1C x.out)=true->z1L p.h x=true:=fun h=>by simp only[z1L,hr,h,Bool.and_self]
      clear HGk hr;generalize z2h (-1) x.told=gt at *;generalize Ln.z1C x.out=gl at *;generalize x.on=xo at *;generalize x.gone=xg at *;generalize x.base=xb at *;generalize x.fresh=xf at *
      by_cases h9:(xo && xg)=false/\0<=xb/\xb<=p.h/\gt=true/\gl=true
      ·obtain⟨q1,q2,q3,rfl,rfl⟩:=h9;have hA2:=hGy (by simp[q1,q2,q3])
       have HA2:=J6 hA2;clear hA2 hGx hGy;have hcs:xo=false∨(xo=true/\xg=false):=by cases xo <;> simp_all
       clear q1
       rcases hcs with rfl | ⟨rfl,rfl⟩
       all_goals
        go_upto_region 16 with (first
        | (go_at_call 92;refine (HST.out _ (Below.refl _ _)).mono ?_;rintro e w6⟨rfl,hb6⟩;have E6:=J6 (show _/\_ from⟨D5.out.1.over hb6,hb6⟩);clear c0 c1 c2 c3 c4 c5 c6 c7 c8 c9 g0;obtain⟨c0,c1,c2,c3,c4,c5,⟨c6,c7,c8,c9⟩,-⟩:=z2k E6.out.1;have HE:=J6 (zbt D5.out.2.2.2 hb6);have HF:=J6 (zbt HBk.out hb6))
        | (go_at_call 93;refine (HLN.out _ E6.out.2).mono ?_;rintro e w7⟨rfl,hb7⟩;have HE:=J6 (zbt HE.out hb7);have HF:=J6 (zbt HF.out hb7)))
        have HAk:Hid (∀ c,c<k+1->z1L p.h (p.L c)=true):=fun c hc=>by
         by_cases e:c=k
         ·subst e;rw[HXK.out];exact HA2.out
         ·exact HA.out c (by omega)
        clear HE HA HA2 HL D5 E6 HST HLN HBk;go_wp2
        first | exact⟨⟨k+1,by omega,by go_num,HF,HAk⟩,by simp[intOf];omega⟩ | ((repeat apply Exists.intro);exact⟨⟨k+1,by omega,by go_num,HF,HAk⟩,rfl⟩)
      ·have e:G=false:=hGx (by rw[Bool.eq_false_iff];intro h;simp only[Bool.and_eq_true,Bool.not_eq_true',decide_eq_true_eq]at h;exact h9 ⟨h.1.1.1.1,h.1.1.1.2,h.1.1.2,h.1.2,h.2⟩)
       subst e;clear hGx hGy HG HP HZ HA HIX HONE
       have hcs:(xo=true/\xg=true)∨((xo=false∨(xo=true/\xg=false))/\(¬ 0<=xb∨(0<=xb/\¬ xb<=p.h)∨(0<=xb/\xb<=p.h/\gt=false)∨(0<=xb/\xb<=p.h/\gt=true/\gl=false))):=by
        cases xo <;> cases xg <;> cases gt <;> cases gl <;> simp_all <;> omega
       clear h9
       rcases hcs with⟨rfl,rfl⟩ | ⟨rfl | ⟨rfl,rfl⟩,q2 | ⟨q2,q3⟩ | ⟨q2,q3,rfl⟩ | ⟨q2,q3,rfl,rfl⟩⟩
       all_goals
        go_wp2_with (first
        | (go_at_call 92;refine (HST.out _ (Below.refl _ _)).mono ?_;rintro e w6⟨rfl,hb6⟩;have E6:=J6 (show _/\_ from⟨D5.out.1.over hb6,hb6⟩);clear c0 c1 c2 c3 c4 c5 c6 c7 c8 c9 g0;obtain⟨c0,c1,c2,c3,c4,c5,⟨c6,c7,c8,c9⟩,-⟩:=z2k E6.out.1;have HE:=J6 (zbt D5.out.2.2.2 hb6);have HF:=J6 (zbt HBk.out hb6))
        | (go_at_call 93;refine (HLN.out _ E6.out.2).mono ?_;rintro e w7⟨rfl,hb7⟩;have HE:=J6 (zbt HE.out hb7);have HF:=J6 (zbt HF.out hb7)))
        go_ret;exact⟨rfl,HE.out⟩
   ·obtain rfl:k=2:=by omega
    rename World=>w9
    have HY:=J6 (show _/\_ from⟨HZ.out.1.over HB.out,zbt HZ.out.2 HB.out⟩);obtain⟨z,hzl,hzr,hzi⟩:=HP.out.q;obtain⟨Aq,Cq,eq,sq,-,cq,-⟩:=hzr.open (z1h _ _ hzl) (by decide)
    have a5:=(z0E HY.out.1).1.2.2.2.2.2;rw[eq]at a5;have HQ:=J6 (show _/\_/\_ from⟨hzl,hzi,cq⟩);have hq63:p.q.length<=1800000000000:=by omega
    clear hzl hzi cq hzr eq sq HB HZ HIX
    go_upto_region 18 with fail
    clear a5
    go_loopw [95] (fun i wl=>∃ (k:Nat),k<=p.q.length/\i=J I (k:Int)/\Hid (Bl w9 wl)/\Hid (∀ (i:Nat) (x:Int×Pkt),i<k->p.q[i]?=some x->z3i p.L x=true)) (fun i _=>p.q.length - (intOf i).toNat)
    case atStart=>exact⟨0,Nat.zero_le _,rfl,Below.refl _ _,fun i x hi=>absurd hi (by omega)⟩
    case round =>
     obtain⟨k,hk,rfl,HB,HN⟩:=hrel
     by_cases hlt:k<p.q.length
     ·have hkI:(k:Int)<(p.q.length:Int):=by omega
      obtain⟨x,hx⟩:∃ x,p.q[k]?=some x:=⟨_,List.getElem?_eq_getElem hlt⟩;obtain⟨y,hy⟩:∃ y,z[k]?=some y:=⟨_,List.getElem?_eq_getElem (by rw[HQ.out.1];exact hlt)⟩
      have hin:=HQ.out.2.1 k x y hx hy;obtain⟨y1,y2⟩:=y;obtain⟨⟨B1,n1,D1,ey1,-⟩,⟨B2,n2,D2,ey2,-⟩⟩:=id hin;dsimp only at ey1 ey2;subst ey1 ey2;have hBw:Bl w wr:=zbt HY.out.2 HB.out;obtain⟨bq,oq,rfl,-,hbl,hcell⟩:=HQ.out.2.2 (by omega)
      have hc:∀ j,j<7->∀ u,(akL x (J1 B1 n1 D1,J1 B2 n2 D2))[j]?=some u->wr.cell? ⟨bq,oq+k * 7+j,none⟩=some u:=fun j hj u hu=>by
       rw[hBw.cell (p:=⟨bq,oq+k * 7+j,none⟩) hbl,Nat.add_assoc];exact hcell _ _ ((z2W p.q z k x _ j hx hy hj).trans hu)
      have e0:=hc 0 (by omega) _ rfl
      have e1:=hc 1 (by omega) _ rfl
      have e2:=hc 2 (by omega) _ rfl
      have e3:=hc 3 (by omega) _ rfl
      have e4:=hc 4 (by omega) _ rfl
      have e5:=hc 5 (by omega) _ rfl
      have e6:=hc 6 (by omega) _ rfl
      rw[Nat.add_zero]at e0;have HGq:=J6 (fun h=>HG.out.qus k x hx h);have HXK:=J6 hx;obtain⟨S1,T1,S2,T2,sb,so,db,dO,es,eu,hL⟩:=Rep.lies (hin.1.over hBw) (hin.2.over hBw);have hgp:=fun (wx:World) (hb:Bl wr wx)=>Cd.q2w x.2.k x.2.i x.2.v x.2.n x.2.S x.2.D S1 S2 T1 T2 sb so db dO wx (hL.later hb);rw[<- es,<- eu]at hgp;have HGP:=J6 hgp
      have gl:∀ c,c<2->wr.cell? ⟨w.heap.size,66+c * 14,none⟩=some (J3 (p.L c).on):=fun c hc2=>by
       have:=z2E (p:=p) (v:=v) c hc2 0 (by omega)
       rw[Nat.add_zero]at this;exact ((HY.out.1.over HB.out).cell _).trans this
      have HGL:=J6 gl;have hglt:w.heap.size<wr.heap.size:=(HY.out.1.over HB.out).lt;clear hc hcell hin hx hy es eu hL hgp gl;have hgq:∀ L,z3i L x=(decide (0<=x.1) && decide (x.1<=1) && (L x.1.toNat).on && decide (x.2.k≠1) && decide (Cd.z0o x.2.k x.2.i x.2.v x.2.n x.2.S x.2.D=0)):=fun _=>rfl;have hgq:=hgq p.L;generalize Cd.z0o x.2.k x.2.i x.2.v x.2.n x.2.S x.2.D=gn at *
      by_cases hr:0<=x.1/\x.1<=1
      ·obtain⟨c,hcx,hc2⟩:∃ c:Nat,x.1=(c:Int)/\c<2:=⟨x.1.toNat,by omega,by omega⟩
       have el:=HGL.out c hc2;rw[hcx]at e0 hgq;have hci:(c:Int)<=1:=by omega
       have hc0:(0:Int)<=(c:Int):=by omega
       have hc2I:(c:Int)<2:=by omega
       have HC0:=J6 (show (decide (0<=(c:Int)) && decide ((c:Int)<=1))=true by simp[hci])
       rw[Int.toNat_natCast]at hgq;have HBn:=J6 (show Bl wr (wr.alloc (J5 #[J I (c:Int),J I x.2.k,J I x.2.i,J I x.2.v,J I x.2.n,J1 B1 n1 D1,J1 B2 n2 D2] 79)) from znw wr _);have HBw:=J6 (zbt hBw HBn.out);have HBk:=J6 (zbt HB.out HBn.out);have HE:=HBw;have HF:=HBk;have HV:=J6 hgq;clear hgq hBw hr hcx;generalize (p.L c).on=lo at *
       by_cases hq:lo=true/\x.2.k≠1/\gn=0
       ·obtain⟨rfl,q1,rfl⟩:=hq;have hgood:z3i p.L x=true:=by rw[HV.out,HC0.out];simp[q1]
        have HN2:Hid (∀ (i:Nat) (y:Int×Pkt),i<k+1->p.q[i]?=some y->z3i p.L y=true):=fun i y hi hy=>by
         by_cases e:i=k
         ·subst e;rw[HXK.out]at hy;cases hy;exact hgood
         ·exact HN.out i y (by omega) hy
        have hk1:(x.2.k == 1)=false:=by simpa using q1
        clear hgood HN HV HGq HG HQ HP HXK HA
        go_upto_region 22 with (go_at_call 94;refine (HGP.out _ (by exact HBn.out)).mono ?_;rintro e w7⟨rfl,hb7⟩;have HE:=J6 (zbt HBw.out hb7);have HF:=J6 (zbt HBk.out hb7))
        clear HE HBw HBk HBn HGP HGL;go_wp2;go_roundw
        case rel=>(repeat apply Exists.intro);exact⟨⟨k+1,by omega,by go_num,HF,HN2⟩,rfl⟩
        case measure=>simp[intOf];omega
       ·have e:G=false:=HGq.out (by
         rw[HV.out,HC0.out];rw[Bool.eq_false_iff];intro h;simp only[Bool.true_and,Bool.and_eq_true,decide_eq_true_eq]at h
         exact hq ⟨h.1.1,h.1.2,h.2⟩)
        subst e
        have hcs:lo=false∨(lo=true/\(x.2.k == 1)=true)∨(lo=true/\(x.2.k == 1)=false/\(gn != 0)=true):=by
         cases lo
         ·exact .inl rfl
         ·by_cases q1:x.2.k=1
          ·exact .inr (.inl ⟨rfl,by simpa using q1⟩)
          ·exact .inr (.inr ⟨rfl,by simpa using q1,by simp;intro q2;exact hq ⟨rfl,q1,q2⟩⟩)
        clear hq HV HGq HG HQ HP HXK HA HN
        rcases hcs with rfl | ⟨rfl,q1⟩ | ⟨rfl,q1,q2⟩
        all_goals
         go_wp2_with (go_at_call 94;refine (HGP.out _ (by exact HBn.out)).mono ?_;rintro e w7⟨rfl,hb7⟩;have HE:=J6 (zbt HBw.out hb7);have HF:=J6 (zbt HBk.out hb7))
         go_ret;exact⟨rfl,HE.out⟩
      ·have e:G=false:=HGq.out (by
        rw[hgq];have:(decide (0<=x.1) && decide (x.1<=1))=false:=by rw[Bool.eq_false_iff];intro h;simp at h;exact hr h
        simp only[this,Bool.false_and])
       subst e;have HBn:=J6 (show Bl wr (wr.alloc (J5 #[J I x.1,J I x.2.k,J I x.2.i,J I x.2.v,J I x.2.n,J1 B1 n1 D1,J1 B2 n2 D2] 79)) from znw wr _);have HE:=J6 (zbt hBw HBn.out);have hcs:x.1<0∨(0<=x.1/\1<x.1):=by omega
       clear hgq HGq HG HQ HP HXK HA HN HGP HGL hBw hr
       rcases hcs with q1 | ⟨q1,q2⟩
       all_goals
        go_wp2;go_ret;exact⟨rfl,HE.out⟩
     ·obtain rfl:k=p.q.length:=by omega
      have e:G=true:=HG.out.all HONE.out HA.out (fun i x hx=>HN.out i x (List.getElem?_eq_some_iff.1 hx).1 hx);subst e;have HBz:=J6 (zbt HY.out.2 HB.out);clear HG HQ HP HY HA HN HB HONE;go_wp2;go_ret;exact⟨rfl,HBz.out⟩
 ·have e:=HG.out.one (by
   rw[Bool.eq_false_iff];intro h;simp only[Bool.and_eq_true,decide_eq_true_eq]at h
   exact h1 ⟨h.1.1.1.1.1,h.1.1.1.1.2,h.1.1.1.2,h.1.1.2,h.1.2,h.2⟩)
  subst e;have HST:=J6 (fun wx hb=>z5p p.set v.set P wx (HP.out.set.over hb));generalize z0j p.s=gs at *;generalize z2h (-1) p.set=gt at *
  have hcs:gs=false∨(gs=true/\¬ 0<=p.h)∨(gs=true/\0<=p.h/\¬ p.h<=1099511627775)∨(gs=true/\0<=p.h/\p.h<=1099511627775/\¬ 0<=p.t)∨(gs=true/\0<=p.h/\p.h<=1099511627775/\0<=p.t/\¬ p.t<=1099511627776)∨(gs=true/\0<=p.h/\p.h<=1099511627775/\0<=p.t/\p.t<=1099511627776/\gt=false):=by
   cases gs
   ·exact .inl rfl
   ·cases gt
    ·by_cases q2:0<=p.h <;> by_cases q3:p.h<=1099511627775 <;> by_cases q4:0<=p.t <;> by_cases q5:p.t<=1099511627776 <;> simp_all
    ·by_cases q2:0<=p.h <;> by_cases q3:p.h<=1099511627775 <;> by_cases q4:0<=p.t <;> by_cases q5:p.t<=1099511627776 <;> simp_all
  clear h1 HG
  rcases hcs with rfl | ⟨rfl,h2⟩ | ⟨rfl,h2,h3⟩ | ⟨rfl,h2,h3,h4⟩ | ⟨rfl,h2,h3,h4,h5⟩ | ⟨rfl,h2,h3,h4,h5,rfl⟩
  all_goals
   go_wp2_with (first
    | (go_at_call 91;refine (HGS.out _ HX.out.2).mono ?_;rintro e w2⟨rfl,hb2⟩;have HY:=J6 (show _/\_ from⟨HX.out.1.over hb2,zbt HX.out.2 hb2⟩);clear a0 a1 a2 a3 a4 a5 a6 hb2;obtain⟨⟨a0,a1,a2,a3,a4,a5⟩,a6⟩:=z0E HY.out.1;have HE:=J6 HY.out.2)
    | (go_at_call 92;refine (HST.out _ HY.out.2).mono ?_;rintro e w3⟨rfl,hb3⟩;have HE:=J6 (zbt HY.out.2 hb3)))
   go_ret;exact⟨rfl,HE.out⟩
end Pv
end Go.Proofs.YtjghbciepinofaaGreat
