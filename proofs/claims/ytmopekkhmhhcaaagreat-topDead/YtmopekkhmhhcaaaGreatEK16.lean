/- Parts of the proof. -/
import Derived.Test.YtmopekkhmhhcaaaGreatEL
import Derived.Test.YtmopekkhmhhcaaaGreatEK31
import Derived.Test.YtmopekkhmhhcaaaGreatEK43
set_option maxRecDepth 100000
set_option maxHeartbeats 16000000
namespace Go.Proofs.YtmopekkhmhhcaaaGreat
open Go.Proofs.Tryz
namespace Pv
open Go.RowKit
def j8P(P:Nat->Prop)(w:World)(r:Pr)(e:Ending)(w':World):Prop:=∃ v',e=.returned (.agg (prC r v'))/\PIn (New P w 2) w' r v'/\Below w.heap.size w w'
theorem q0d{f:Func}{t:Tmp}(hres:f.results=#[.cell t 57]){P:Nat->Prop}{w wq:World}{zs:Array Value}(R:CAt 57 wq (w.heap.size+1) zs)(hz:zs.size=97)(H:Below w.heap.size w wq)(p':Pr)(v':PrV)(r:Pr)(hr:r=p')(hp:PIn (New P w 2) wq p' v')(act:Act)
  (h8:act.tmps.getD t undef=.pointer (some ⟨w.heap.size+1,0,none⟩)) (hd:act.defers=[]) :
  bodyPost prog f (j8P P w r) Exit.ret act (wq.setCells (w.heap.size+1) 0 (prC p' v').toList):=by
 subst hr;have R3:=R.z0s (ds:=prC r v') (by rw[hz];rfl)
 exact bodyPost_ret (v:=.agg (prC r v')) (z5u hres _ _ _ _ h8 R3 rfl) hd ⟨v',rfl,hp.sets (z3F (by omega)) _ _,z0a (Nat.le_succ _) _ _ _ H⟩
theorem j5u(p:Pr)(v:PrV)(k:Nat)(hk:k<2):(((((prC p v).setIfInBounds (66+k * 14) (.bool false)).setIfInBounds (66+k * 14+1) (.bool true)).setIfInBounds (66+k * 14+6+3) (.bool true)).setIfInBounds (66+k * 14+4) (.bool false)).setIfInBounds (66+k * 14+5) q1X=prC { p with L:=z0X p.L k (z4H (p.L k)) } (v.upd k { v.l k with done:=q1X }):=by
 obtain ⟨a,c,ha,h1,h2⟩:=z5F p v k hk;rw[h1,h2,← Nat.add_zero (66+k * 14)];rw[set_mid _ _ _ _ 0 _ ha (by simp[lkL]),Nat.add_zero,set_mid _ _ _ _ 1 _ ha (by simp[lkL]),Nat.add_assoc (66+k * 14) 6 3,set_mid _ _ _ _ (6+3) _ ha (by simp[lkL]),set_mid _ _ _ _ 4 _ ha (by simp[lkL]),set_mid _ _ _ _ 5 _ ha (by simp[lkL])]
 rfl
attribute [local go_sem ↓] z1s z0F z0v z1k
theorem z7p(p:Pr)(v:PrV)(P:Nat->Prop)(w:World)(c:Int)(hp:PIn P w p v)(hq88:p.q.length * 88<=140737488351232) :
  Calls prog 96 #[.agg (prC p v),.int .i64 c] w (j8P P w (z0P p c)):=by
 have hD:z0P p c=if z0J p=true/\z9B p c=true then { p with s:={ p.s with W:=z5f c.toNat 1099511627776 p.s.W },L:=z0X p.L c.toNat (z4H (p.L c.toNat)),q:=p.q.filter fun a=>decide (a.1≠c) } else p:=by unfold z0P;rfl
 generalize z0P p c=D at *;have HD:=hide hD;clear hD;have HQ88:=hide hq88;clear hq88;have hone:=z0V hp;have HGD:=hide (fun (wx:World) (hb:Below w.heap.size w wx)=>z2x p v P wx (hp.over hb));have HN:=hide (fun (wx:World) (hb:Below w.heap.size w wx)=>hp.z2s hb 2);have HP:=hide hp;clear hp;generalize z0J p=G at *
 go_enter func96,ntmps96
 go_upto_region 1 with fail
 change Code.wp prog _ _ _ ((w.alloc (.cells (prC p v) 57)).alloc (.cells zeroCells57 57));have C0:CAt 57 ((w.alloc (.cells (prC p v) 57)).alloc (.cells zeroCells57 57)) w.heap.size (prC p v):=(CAt.new _ w _).alloc _;have R0:CAt 57 ((w.alloc (.cells (prC p v) 57)).alloc (.cells zeroCells57 57)) (w.heap.size+1) zeroCells57:=CAt.new2 _ w _ _;have B0:Below w.heap.size w ((w.alloc (.cells (prC p v) 57)).alloc (.cells zeroCells57 57)):=(znw w _).alloc (by simp) _
 generalize (w.alloc (.cells (prC p v) 57)).alloc (.cells zeroCells57 57)=w0 at *;have l0:=z0i C0 (z0b _ _);have H0:=hide (show _/\_/\_ from ⟨C0,R0,B0⟩);clear C0 R0 B0
 by_cases hok:G=true/\z9B p c=true
 ·obtain ⟨rfl,hon⟩:=hok;replace HD:=hide (HD.out.trans (if_pos ⟨rfl,hon⟩));have hcc:isC c=true:=by unfold z9B at hon;simp at hon;exact hon.1
  obtain ⟨k,rfl,hk⟩:=z8Y hcc;rw[Int.toNat_natCast]at HD;clear hcc
  go_upto_region 3 with (first
   | (go_at_call 74;refine (HGD.out _ H0.out.2.2).mono ?_;rintro e w1 ⟨rfl,hb1⟩;have C1:=H0.out.1.over hb1;clear l0)
   | (go_at_call 103;refine (z5t w.heap.size p v k _ C1).mono ?_;rintro e w' ⟨rfl,rfl⟩;simp only[hon]))
  have R1:=H0.out.2.1.over hb1;have B1:=zbt H0.out.2.2 hb1;clear hb1 H0 HGD;have hkk:(k:Int)<2:=by omega
  have hkz:(0:Int)<=(k:Int):=by omega
  obtain ⟨c0,c1,-,-,c4,c5,-,-,-,c9⟩:=(C1.lk hk).facts;have f0:=C1.free (66+k * 14);have f1:=C1.free (66+k * 14+1);have f4:=C1.free (66+k * 14+4);have f5:=C1.free (66+k * 14+5);have f9:=C1.free (66+k * 14+6+3);have hz1:=C1.lt;have HC1:=hide (show _/\_/\_ from ⟨C1,R1,B1⟩);clear C1 R1 B1 hone;have HRL:=hide (fun (wx:World) (hb:Below w.heap.size w wx)=>j2J (HP.out.ws.over hb) k 1099511627776 hk);have HWC:=hide (fun (wx:World) (hb:Below w.heap.size w wx)=>q0O p.q v.q (fun b=>P b/\b<w.heap.size) wx k ((HP.out.q.mono (P':=fun b=>P b/\b<w.heap.size) fun _ hl hP=>⟨hP,hl⟩).keep fun b _ hlt=>hb.block b hlt) HQ88.out)
  go_upto_region 7 with fail
  have C2:=((((HC1.out.1.set (66+k * 14) (.bool false)).set (66+k * 14+1) (.bool true)).set (66+k * 14+6+3) (.bool true)).set (66+k * 14+4) (.bool false)).set (66+k * 14+5) (.slice none 0 0);rw[show (Value.slice none 0 0)=q1X from rfl,j5u p v k hk]at C2;have A2:Alt w.heap.size w1 _:=(((((Alt.refl w.heap.size w1).set (66+k * 14) (.bool false)).set (66+k * 14+1) (.bool true)).set (66+k * 14+6+3) (.bool true)).set (66+k * 14+4) (.bool false)).set (66+k * 14+5) q1X;have R2:=A2.cat (b:=w.heap.size+1) (by omega) HC1.out.2.1
  have B2:=HC1.out.2.2.trans (A2.below (Nat.le_refl _) HC1.out.2.2.size);change Code.wp prog _ _ _ (((((w1.setCell ⟨w.heap.size,66+k * 14,none⟩ (.bool false)).setCell ⟨w.heap.size,66+k * 14+1,none⟩ (.bool true)).setCell ⟨w.heap.size,66+k * 14+6+3,none⟩ (.bool true)).setCell ⟨w.heap.size,66+k * 14+4,none⟩ (.bool false)).setCell ⟨w.heap.size,66+k * 14+5,none⟩ q1X);clear A2 HC1 c0 c1 c4 c5 c9 f0 f1 f4 f5 f9;generalize ((((w1.setCell ⟨w.heap.size,66+k * 14,none⟩ (.bool false)).setCell ⟨w.heap.size,66+k * 14+1,none⟩ (.bool true)).setCell ⟨w.heap.size,66+k * 14+6+3,none⟩ (.bool true)).setCell ⟨w.heap.size,66+k * 14+4,none⟩ (.bool false)).setCell ⟨w.heap.size,66+k * 14+5,none⟩ q1X=w2 at *;have m2:=z1Z C2;change (z8d (.pointer (some ⟨w.heap.size,2,none⟩))).run prog w2=.ok (.agg (stC p.s v.ws)) w2 at m2;have hz2:=R2.lt;have H2:=hide (show _/\_/\_ from ⟨C2,R2,B2⟩);clear C2 R2 B2
  go_upto_region 8 with (go_at_call 133;refine (HRL.out _ H2.out.2.2).mono ?_;rintro e w3 ⟨u3,rfl,U3,hb3⟩;clear m2;have C3:=H2.out.1.over hb3;have sS3:=z2B C3 (z0b _ _) (z0e { p.s with W:=z5f k 1099511627776 p.s.W } u3) (z5v _ U3.one'))
  have R3:=H2.out.2.1.over hb3;have B3:=zbt H2.out.2.2 hb3;have C4:=C3.z0Z { p.s with W:=z5f k 1099511627776 p.s.W } u3
  have R4:=R3.others (c:=w.heap.size) (o:=2) (by omega) (stC { p.s with W:=z5f k 1099511627776 p.s.W } u3).toList
  have B4:=z0a (b:=w.heap.size) (Nat.le_refl _) (stC { p.s with W:=z5f k 1099511627776 p.s.W } u3).toList 2 _ B3
  have U4:=U3.sets (g:=w.heap.size) (fun h=>by omega) 2 (stC { p.s with W:=z5f k 1099511627776 p.s.W } u3).toList
  clear sS3 hb3 H2 C3 R3 B3 U3 HRL;generalize w3.setCells w.heap.size 2 (stC { p.s with W:=z5f k 1099511627776 p.s.W } u3).toList=w4 at *
  have a96:w4.cell? ⟨w.heap.size,96,none⟩=some v.q:=C4.cell 96;have hz4:=R4.lt;have H4:=hide (show _/\_/\_/\_ from ⟨C4,R4,B4,U4⟩);clear C4 R4 B4 U4;obtain ⟨zq,hzl,hzr,hzi⟩:=HP.out.q;obtain ⟨Aq,nq,Dq,eq⟩:=hzr.one';have HQE:=hide eq;rw[eq]at a96 HWC;clear eq hzl hzr hzi
  go_upto_region 9 with (go_at_call 134;refine (HWC.out _ H4.out.2.2.1).mono ?_;rintro e w5 ⟨u5,rfl,U5,hb5⟩;clear a96;obtain ⟨A5,n5,D5,e5⟩:∃ A n C,u5=.slice A n C:=(by obtain ⟨_,_,h,_⟩:=id U5;exact h.one');subst e5;have C5:=H4.out.1.over hb5;have z96:w5.cell? ⟨w.heap.size,96,none⟩=some v.q:=C5.cell 96;have f96:=C5.free 96;have hz5:=C5.lt)
  have C6:=C5.set 96 (.slice A5 n5 D5);rw[j8O]at C6;have R6:=(H4.out.2.1.over hb5).other (c:=w.heap.size) (o:=96) (by omega) (.slice A5 n5 D5)
  have B5:=zbt H4.out.2.2.1 hb5;have B6:=B5.setCell (p:=⟨w.heap.size,96,none⟩) (Nat.le_refl _) (.slice A5 n5 D5);have A6:Alt w.heap.size w5 (w5.setCell ⟨w.heap.size,96,none⟩ (.slice A5 n5 D5)):=(Alt.refl _ _).set 96 _
  have N6:PIn (New P w 2) (w5.setCell ⟨w.heap.size,96,none⟩ (.slice A5 n5 D5)) { p with s:={ p.s with W:=z5f k 1099511627776 p.s.W },L:=z0X p.L k (z4H (p.L k)),q:=p.q.filter fun a=>decide (a.1≠k) } { ws:=u3,set:=v.set,l:=(v.upd k { v.l k with done:=q1X }).l,q:=.slice A5 n5 D5 }:=by
   have n6:=HN.out _ B6;have hs2:w.heap.size+1<w4.heap.size:=hz4;refine ⟨?_,n6.set,fun c hc=>?_,?_⟩
   ·have h4:=(H4.out.2.2.2.mono (P':=fun b=>w2.heap.size<=b/\b<w4.heap.size) fun _ hl h=>⟨h,hl⟩).over hb5;exact (A6.rep (fun h=>by omega) h4).mono fun b _ hb=>.inr (by omega)
   ·have h:=n6.lk c hc
    show z5r _ _ (if c=k then z4H (p.L k) else p.L c) (if c=k then { v.l k with done:=q1X } else v.l c)
    by_cases hck:c=k
    ·subst hck;rw[if_pos rfl,if_pos rfl];exact ⟨h.told,Rep.nil _ _ _ _,h.said,h.due⟩
    ·rw[if_neg hck,if_neg hck];exact h
   ·obtain ⟨z,h1,h2,h3⟩:=U5
    have hno:¬ New (fun b=>P b/\b<w.heap.size) w4 0 w.heap.size:=fun h=>by
     rcases h with ⟨h,_⟩ | h
     ·have:=h.2;omega
     ·omega
    have hm:∀ b,b<(w5.setCell ⟨w.heap.size,96,none⟩ (.slice A5 n5 D5)).heap.size->New (fun b=>P b/\b<w.heap.size) w4 0 b->New P w 2 b:=fun b _ h=>by
     rcases h with ⟨h,_⟩ | h
     ·exact .inl h
     ·exact .inr (by omega)
    exact ⟨z,h1,(A6.rep hno h2).mono hm,fun i x y hx hy=>⟨(A6.rep hno (h3 i x y hx hy).1).mono hm,(A6.rep hno (h3 i x y hx hy).2).mono hm⟩⟩
  obtain ⟨p6,v6,hd6,K6,M6⟩:∃ p6 v6,D=p6/\CAt 57 (w5.setCell ⟨w.heap.size,96,none⟩ (.slice A5 n5 D5)) w.heap.size (prC p6 v6)/\PIn (New P w 2) (w5.setCell ⟨w.heap.size,96,none⟩ (.slice A5 n5 D5)) p6 v6:=⟨_,_,HD.out,C6,N6⟩;have l6:=z0i K6 (z0b _ _);have s6:=z0j R6 z0d (z0b p6 v6) (z0V M6);have HZ:=hide (show _/\_/\_/\_ from ⟨R6,B6,M6,hd6⟩);clear C6 K6 R6 B6 A6 N6 M6 B5 C5 U5 hb5 H4 HWC z96 f96 HD hd6;generalize w5.setCell ⟨w.heap.size,96,none⟩ (.slice A5 n5 D5)=w6 at *;go_wp2;exact q0d results96 HZ.out.1 z0d HZ.out.2.1 p6 v6 D HZ.out.2.2.2 HZ.out.2.2.1 _ rfl rfl
 ·replace HD:=hide (HD.out.trans (if_neg hok))
  have hcs:G=false∨(G=true/\z9B p c=false):=by
   cases G
   ·exact .inl rfl
   ·cases h:z9B p c
    ·exact .inr ⟨rfl,rfl⟩
    ·exact absurd ⟨rfl,h⟩ hok
  clear hok
  rcases hcs with rfl | ⟨rfl,h1⟩
  all_goals
   go_upto_region 2 with (first
    | (go_at_call 74;refine (HGD.out _ H0.out.2.2).mono ?_;rintro e w1 ⟨rfl,hb1⟩;have C1:=H0.out.1.over hb1;clear l0)
    | (go_at_call 103;refine (z5t w.heap.size p v c _ C1).mono ?_;rintro e w' ⟨rfl,rfl⟩;simp only[h1]))
   have R1:=H0.out.2.1.over hb1;have l1:=z0i C1 (z0b _ _);have s1:=z0j R1 z0d (z0b p v) hone;have B1:=zbt H0.out.2.2 hb1;have HZ:=hide (show _/\_ from ⟨R1,B1⟩);clear R1 B1 hb1 hone H0 HGD C1;go_wp2;exact q0d results96 HZ.out.1 z0d HZ.out.2 p v D HD.out (HN.out _ HZ.out.2) _ rfl rfl
end Pv
namespace Pv
open Go.RowKit
attribute [local go_sem ↓] z7i z7y
set_option maxRecDepth 1000000 in
theorem j2m(g:Nat)(p D:Pr)(v:PrV)(P:Nat->Prop)(w w5:World)(c o g7:Nat)(x:Ln.Line)(s1 s2:Value)(E1:Int)(hc:c<2)(hC:CAt 57 w g (prC p v))(hp:PIn P w p v)(hg:¬ P g)(HO:Hid (o=66+c * 14))(HB:Hid (Below w.heap.size w w5))(hg7:w.heap.size<=g7)(HL7:Hid (CAt 47 w5 g7 #[s1,s2,.int .i64 x.g,.bool x.cl]))(HR1:Hid (z0I (fun b=>New P w 0 b/\b≠g7) w5 s1 1 16 (txC x.S)))(HR2:Hid (z0I (fun b=>New P w 0 b/\b≠g7) w5 s2 1 8 (inC x.D)))
  (HD:Hid (D=if E1=0 then { p with L:=z0X p.L c { p.L c with out:=x,told:=p.set,fresh:=false,done:=[] } } else p)) (v2 v3 v4 v5 v8 v9 v10 v11 v12 v13 v14 v15 v16 v17 v18 v19 v20 v21 v22 v23 v24 v25 v26 v27 v28 v29 v30 v31 v32 v33 v34 v35 v36 v37 v38 v39 v40 v41 v42 v43 v44 v45 v46 v47 v48 v49 v50 v51 v52 v53 v54 v55 v56 v57 v58 v59 v60 v61 v62 v63 v64 v65 v66 v67 v68 v69 v70 v71 v72 v73 v74 v75 v76 v77 v78 v79 v80 v81 v82 v83 v84 v85 v86 v87 v88 v89 v90 v91 v92 v93 v94 v95 v96 v97:Value) :
  Code.wp prog j7y (bodyPost prog f86 (Turns w g P D)) ⟨List.toArray ((.pointer (some ⟨g,0,none⟩)) :: (.pointer (some ⟨g,o,none⟩)) :: v2 :: v3 :: v4 :: v5 :: (.int .i64 E1) :: (.pointer (some ⟨g7,0,none⟩)) :: v8 :: v9 :: v10 :: v11 :: v12 :: v13 :: v14 :: v15 :: v16 :: v17 :: v18 :: v19 :: v20 :: v21 :: v22 :: v23 :: v24 :: v25 :: v26 :: v27 :: v28 :: v29 :: v30 :: v31 :: v32 :: v33 :: v34 :: v35 :: v36 :: v37 :: v38 :: v39 :: v40 :: v41 :: v42 :: v43 :: v44 :: v45 :: v46 :: v47 :: v48 :: v49 :: v50 :: v51 :: v52 :: v53 :: v54 :: v55 :: v56 :: v57 :: v58 :: v59 :: v60 :: v61 :: v62 :: v63 :: v64 :: v65 :: v66 :: v67 :: v68 :: v69 :: v70 :: v71 :: v72 :: v73 :: v74 :: v75 :: v76 :: v77 :: v78 :: v79 :: v80 :: v81 :: v82 :: v83 :: v84 :: v85 :: v86 :: v87 :: v88 :: v89 :: v90 :: v91 :: v92 :: v93 :: v94 :: v95 :: v96 :: v97 :: []),[]⟩ w5:=by
 conv=>arg 2;whnf
 have HP:=hide hp;have HC:=hide hC;have hgl:=hC.lt;obtain ⟨A1,n1,K1,B1,rfl,-,-⟩:=id HR1.out;obtain ⟨A2,n2,K2,B2,rfl,-,-⟩:=id HR2.out
 by_cases hE:E1=0
 rotate_left
 ·have hq:Hid (D=p):=HD.out.trans (if_neg hE);have hE':(E1 != 0)=true:=by simpa using hE
  clear HD HR1 HR2 HL7 hC hp;go_wp2;go_end0;rw[hq.out];exact ⟨v,rfl,HC.out.over HB.out,HP.out.z2s HB.out 0,Alt.of HB.out⟩
 subst hE;replace HD:=hide (HD.out.trans (if_pos rfl));have C5:=HC.out.over HB.out;have hgg:¬ g7=g:=by omega
 have hf:=(C5.lk hc).facts;rw[← HO.out]at hf;obtain ⟨-,-,-,f3,f4,f5,f6,f7,f8,f9⟩:=hf;have k0:w5.cell? ⟨g7,0,none⟩=_:=HL7.out.cell 0;have k1:w5.cell? ⟨g7,0+1,none⟩=_:=HL7.out.cell 1;have k2:w5.cell? ⟨g7,0+2,none⟩=_:=HL7.out.cell 2;have k3:w5.cell? ⟨g7,0+3,none⟩=_:=HL7.out.cell 3;have z6:=C5.free (o+6);have z7:=C5.free (o+6+1);have z8:=C5.free (o+6+2);have z9:=C5.free (o+6+3);have HC5:=hide C5;clear hC hp C5
 have sN:(q0B (.pointer (some ⟨g,o+6,none⟩)) (.agg #[.slice A1 n1 K1,.slice A2 n2 K2,.int .i64 x.g,.bool x.cl])).run prog w5=.ok () (w5.setCells g (o+6) [.slice A1 n1 K1,.slice A2 n2 K2,.int .i64 x.g,.bool x.cl]):=
  run_storeAt_mid (P:=prog) w5 g (o+6) 47 #[.slice A1 n1 K1,.slice A2 n2 K2,.int .i64 x.g,.bool x.cl] (HC5.out.there (o+6) 4 (by rw[z0b,HO.out];omega)) (by rw[q8r];rfl) (by simp[Value.oneCell'])
 go_upto_region 7 with fail
 have C6:CAt 57 (w5.setCells g (o+6) [.slice A1 n1 K1,.slice A2 n2 K2,.int .i64 x.g,.bool x.cl]) g (((((prC p v).setIfInBounds (o+6) (.slice A1 n1 K1)).setIfInBounds (o+7) (.slice A2 n2 K2)).setIfInBounds (o+8) (.int .i64 x.g)).setIfInBounds (o+9) (.bool x.cl)):=(((HC5.out.set (o+6) _).set (o+7) _).set (o+8) _).set (o+9) _;have hn:¬ New P w 0 g:=z0K hg hgl;have HA6:Hid (Alt g w (w5.setCells g (o+6) [.slice A1 n1 K1,.slice A2 n2 K2,.int .i64 x.g,.bool x.cl])):=(Alt.of HB.out).sets _ _;have HK6:Hid (∀ b,b≠g->(w5.setCells g (o+6) [.slice A1 n1 K1,.slice A2 n2 K2,.int .i64 x.g,.bool x.cl]).heap[b]?=w5.heap[b]?):=fun b hb=>z1c hb _ _ _;have HS6:Hid (w5.heap.size=(w5.setCells g (o+6) [.slice A1 n1 K1,.slice A2 n2 K2,.int .i64 x.g,.bool x.cl]).heap.size):=by show _=_;simp[World.setCells,World.setCell]
 clear f6 f7 f8 f9 k0 k1 k2 k3 z6 z7 z8 z9 sN f3 f4 f5;generalize w5.setCells g (o+6) [.slice A1 n1 K1,.slice A2 n2 K2,.int .i64 x.g,.bool x.cl]=w6 at *;have hgl6:=C6.lt;have P6:PIn (New P w 0) w6 p v:=(HP.out.z2s HB.out 0).keep fun b hb _=>HK6.out b (fun e=>hn (by rw[← e];exact hb))
 have HCL:=hide (z6i p.set v.set (New P w 0) w6 P6.set)
 have e65:w6.cell? ⟨g,65,none⟩=some v.set:=by
  rw[C6.cell 65];simp only[Array.getElem?_setIfInBounds];have:=HO.out;rw[if_neg (by omega),if_neg (by omega),if_neg (by omega),if_neg (by omega)]
  rfl
 obtain ⟨At,nt,Ct,et⟩:=(HP.out.lk c hc).told.one';obtain ⟨Ad,nd,Cd0,ed⟩:=(HP.out.lk c hc).done.one'
 have HF6:Hid (∀ wx,Below w6.heap.size w6 wx->wx.cell? ⟨g,o+3,none⟩=some (.slice At nt Ct)/\wx.cell? ⟨g,o+4,none⟩=some (.bool (p.L c).fresh)/\wx.cell? ⟨g,o+5,none⟩=some (.slice Ad nd Cd0)/\∀ k,wx.frozen? ⟨g,k,none⟩=false):=fun wx hb=>by
  have C:=C6.over hb
  have hl:∀ j,j<6->∀ z,(lkL (p.L c) (v.l c))[j]?=some z->wx.cell? ⟨g,o+j,none⟩=some z:=fun j hj z hz=>by
   rw[C.cell (o+j)];simp only[Array.getElem?_setIfInBounds];rw[if_neg (by omega),if_neg (by omega),if_neg (by omega),if_neg (by omega),HO.out,z4k c hc j (by omega),hz]
  exact ⟨hl 3 (by omega) _ (by rw[← et];rfl),hl 4 (by omega) _ rfl,hl 5 (by omega) _ (by rw[← ed];rfl),fun k=>C.free k⟩
 have H6:=hide (show _/\_ from ⟨C6,P6⟩);clear C6 P6 et ed;obtain ⟨As,ns,Cs,es⟩:=HP.out.set.one';rw[es]at e65 HCL;clear es
 go_upto_region 8 with (go_at_call 41;refine HCL.out.mono ?_;rintro e w7 ⟨u,rfl,U7,hb7⟩;obtain ⟨Au,nu,Cu,rfl⟩:=U7.one';obtain ⟨q3,q4,q5,qz⟩:=HF6.out w7 hb7;have hgl7:g<w7.heap.size:=Nat.lt_of_lt_of_le hgl6 hb7.size;have qz3:=qz (o+3);have HU:=hide (show _/\_ from ⟨U7,hb7⟩);have HQZ:=hide qz;clear U7 hb7 qz)
 have qz4:=HQZ.out (o+4);have qz5:=HQZ.out (o+5);go_wp2;go_end0;have e:=HO.out;clear HO q3 q4 q5 qz3 qz4 qz5 HF6 HCL;subst e;rw[HD.out];have hk:∀ b,New P w 0 b->b≠g:=fun b hb e=>hn (by rw[← e];exact hb)
 have hks:∀ b,New P w 0 b->(((w7.setCell ⟨g,66+c * 14+3,none⟩ (.slice Au nu Cu)).setCell ⟨g,66+c * 14+4,none⟩ (.bool false)).setCell ⟨g,66+c * 14+5,none⟩ (.slice none 0 0)).heap[b]?=w7.heap[b]?:=fun b hb=>(Below.heap_setCell _ _ _ _ (hk b hb)).trans ((Below.heap_setCell _ _ _ _ (hk b hb)).trans (Below.heap_setCell _ _ _ _ (hk b hb)));have C9:=(((H6.out.1.over HU.out.2).set (66+c * 14+3) (.slice Au nu Cu)).set (66+c * 14+4) (.bool false)).set (66+c * 14+5) (.slice none 0 0);rw[j4u c hc x p.set (.slice Au nu Cu) (.slice A1 n1 K1) (.slice A2 n2 K2)]at C9;have hs6:=HA6.out.size;have R1:=(((HR1.out.mono (P':=New P w 0) fun b _ h=>h.1).keep (w':=w6) fun b hb _=>HK6.out b (hk b hb)).over HU.out.2).keep (w':=((w7.setCell ⟨g,66+c * 14+3,none⟩ (.slice Au nu Cu)).setCell ⟨g,66+c * 14+4,none⟩ (.bool false)).setCell ⟨g,66+c * 14+5,none⟩ (.slice none 0 0)) fun b hb _=>hks b hb;have R2:=(((HR2.out.mono (P':=New P w 0) fun b _ h=>h.1).keep (w':=w6) fun b hb _=>HK6.out b (hk b hb)).over HU.out.2).keep (w':=((w7.setCell ⟨g,66+c * 14+3,none⟩ (.slice Au nu Cu)).setCell ⟨g,66+c * 14+4,none⟩ (.bool false)).setCell ⟨g,66+c * 14+5,none⟩ (.slice none 0 0)) fun b hb _=>hks b hb;have T9:=(HU.out.1.mono (P':=New P w 0) fun b _ h=>.inr (by omega)).keep (w':=((w7.setCell ⟨g,66+c * 14+3,none⟩ (.slice Au nu Cu)).setCell ⟨g,66+c * 14+4,none⟩ (.bool false)).setCell ⟨g,66+c * 14+5,none⟩ (.slice none 0 0)) fun b hb _=>hks b hb
 exact ⟨_,rfl,C9,j4y ((((H6.out.2.over HU.out.2).put hn _ _).put hn _ _).put hn _ _) c x _ _ _ T9 R1 R2,(((HA6.out.trans (Alt.of HU.out.2)).put _ _).put _ _).put _ _⟩
end Pv
namespace Pv
open Go.RowKit
structure Sds(P:Nat->Prop)(w w6:World)(x:Ln.Line)(u1 u2:Value)(g7:Nat)(w':World):Prop where
 cat:CAt 47 w' g7 #[u1,u2,.int .i64 x.g,.bool x.cl]
 r1:z0I (fun b=>New P w 0 b/\b≠g7) w' u1 1 16 (txC x.S)
 r2:z0I (fun b=>New P w 0 b/\b≠g7) w' u2 1 8 (inC x.D)
 bel:Below w6.heap.size w6 w'
 le:w6.heap.size<=g7
theorem z0I.sets{P:Nat->Prop}{w:World}{v:Value}{sz bts:Nat}{cs:List Value}(h:z0I P w v sz bts cs){g:Nat}(hg:¬ P g)(o:Nat)(vs:List Value):z0I P (w.setCells g o vs) v sz bts cs:=h.keep fun b hb _=>z1c (show b≠g from fun e=>hg (by rw[← e];exact hb)) vs o w
theorem z0I.one'{P:Nat->Prop}{w:World}{v:Value}{sz bts:Nat}{cs:List Value}(h:z0I P w v sz bts cs):∃ A n C,v=.slice A n C:=by
 obtain ⟨A,n,C,-,rfl,-⟩:=h;exact ⟨A,n,C,rfl⟩
theorem z2S{u1 u2:Value}(h1:∃ A n C,u1=.slice A n C)(h2:∃ A n C,u2=.slice A n C)(a:Int)(b:Bool):(#[u1,u2,.int .i64 a,.bool b]:Array Value).all (·.oneCell')=true:=by
 obtain ⟨A,n,C,rfl⟩:=h1;obtain ⟨A',n',C',rfl⟩:=h2
 simp[Value.oneCell']
theorem j4d{P:Nat->Prop}{w w6 w0 wb:World}{x:Ln.Line}{u1 u2:Value}(h6:w.heap.size<=w6.heap.size)(h0:w6.heap.size<=w0.heap.size)(U1:z0I (New (fun b=>P b/\b<w.heap.size) w0 0) wb u1 1 16 (txC x.S))(U2:z0I (New (fun b=>P b/\b<w.heap.size) w0 0) wb u2 1 8 (inC x.D))(hb:Below w6.heap.size w6 wb) :
  ∃ wS,(q0B (.pointer (some ⟨wb.heap.size,0,none⟩)) (.agg #[u1,u2,.int .i64 x.g,.bool x.cl])).run prog (wb.alloc (.cells Z4 47))=.ok () wS/\Sds P w w6 x u1 u2 wb.heap.size wS:=by
 have bA:Below wb.heap.size wb (wb.alloc (.cells Z4 47)):=znw wb _
 have m:∀ b,b<wb.heap.size->New (fun b=>P b/\b<w.heap.size) w0 0 b->New P w 0 b/\b≠wb.heap.size:=fun b hl h=>by
  refine ⟨?_,by omega⟩
  rcases h with ⟨h,_⟩ | h
  ·exact .inl h
  ·exact .inr (by omega)
 refine ⟨_,q2T (CAt.new 47 wb Z4) rfl rfl (z2S U1.one' U2.one' _ _),(CAt.new 47 wb Z4).z0s rfl,((U1.mono m).over bA).sets (fun h=>h.2 rfl) _ _,((U2.mono m).over bA).sets (fun h=>h.2 rfl) _ _,z0a hb.size _ _ _ (hb.alloc hb.size _),hb.size⟩
theorem j3z{P:Nat->Prop}{w w6 w0 wb:World}{x:Ln.Line}{u1 u2:Value}(h6:w.heap.size<=w6.heap.size)(h0:w6.heap.size+1<=w0.heap.size)(U1:z0I (New (fun b=>P b/\b<w.heap.size) w0 0) wb u1 1 16 (txC x.S))(U2:z0I (New (fun b=>P b/\b<w.heap.size) w0 0) wb u2 1 8 (inC x.D))(hb:Below w6.heap.size w6 wb)(hc:CAt 47 wb w6.heap.size Z4) :
  ∃ wS,(q0B (.pointer (some ⟨w6.heap.size,0,none⟩)) (.agg #[u1,u2,.int .i64 x.g,.bool x.cl])).run prog wb=.ok () wS/\Sds P w w6 x u1 u2 w6.heap.size wS:=by
 have m:∀ b,b<wb.heap.size->New (fun b=>P b/\b<w.heap.size) w0 0 b->New P w 0 b/\b≠w6.heap.size:=fun b hl h=>by
  rcases h with ⟨h,_⟩ | h
  ·exact ⟨.inl h,by have:=h.2;omega⟩
  ·exact ⟨.inr (by omega),by omega⟩
 refine ⟨_,q2T hc rfl rfl (z2S U1.one' U2.one' _ _),hc.z0s rfl,(U1.mono m).sets (fun h=>h.2 rfl) _ _,(U2.mono m).sets (fun h=>h.2 rfl) _ _,z0a (Nat.le_refl _) _ _ _ hb,Nat.le_refl _⟩
def j8a(F:Option Addr->Nat->Nat->Option Addr->Nat->Nat->Nat->Act)(R:Option Addr->Nat->Nat->Option Addr->Nat->Nat->Nat->World->Prop)(ex:Exit)(a:Act)(w:World):Prop:=∃ A n C A' n' C' g,ex=Exit.normal/\a=F A n C A' n' C' g/\R A n C A' n' C' g w
theorem j2d{P:Program}{c:Code}{Q:Exit->Act->World->Prop}{a:Act}{w:World}(R:Option Addr->Nat->Nat->Option Addr->Nat->Nat->Nat->World->Prop)(F:Option Addr->Nat->Nat->Option Addr->Nat->Nat->Nat->Act)(h1:Code.wp P c (j8a F R) a w)(h2:∀ A n C A' n' C' g w',R A n C A' n' C' g w'->Q Exit.normal (F A n C A' n' C' g) w'):Code.wp P c Q a w:=
 Code.wp_mono (fun e a' w' h=>by obtain ⟨A,n,C,A',n',C',g,rfl,rfl,h⟩:=h;exact h2 A n C A' n' C' g w' h) h1
attribute [local go_sem ↓] z7i z7y
set_option maxRecDepth 1000000 in
theorem j1q(g:Nat)(p D:Pr)(v:PrV)(P:Nat->Prop)(w w5:World)(c o g4:Nat)(dl:List (Int×Int))(ud ut:Value)(hc:c<2)(hC:CAt 57 w g (prC p v))(hp:PIn P w p v)(hg:¬ P g)(ht0:0<=p.t)(ht1:p.t<=1099511627776)(HO:Hid (o=66+c * 14))(HB:Hid (Below w.heap.size w w5))(HK:Hid (CAt 70 w5 g4 #[.int .i64 1,.int .i64 p.h,.int .i64 0,.int .i64 0,ud,ut]))(HU1:Hid (Rep (fun _=>True) w5 ud 2 16 (pwC dl)))(HU2:Hid (Rep (fun _=>True) w5 ut 1 8 (inC (p.L c).done)))
  (HD:Hid (D=if Cd.z0t 1 p.h 0 0 dl (p.L c).done=0 then if Ln.z6x (p.L c).out (p.t+40)=0 then { p with L:=z0X p.L c { p.L c with out:=Ln.z5b (p.L c).out (Cd.encS 1 p.h 0 0 dl (p.L c).done) (p.t+40),told:=p.set,fresh:=false,done:=[] } } else p else p)) (v8 v9 v10 v11 v12 v13 v14 v15 v16 v17 v18 v19 v20 v21 v22 v23 v24 v25 v26 v27 v28 v29 v30 v31 v32 v33 v34 v35 v36 v37 v38 v39 v40 v41 v42 v43 v44 v45 v46 v47 v48 v49 v50 v51 v52 v53 v54 v55 v56:Value) :
  Code.wp prog j7C (bodyPost prog f86 (Turns w g P D)) ⟨List.toArray ((.pointer (some ⟨g,0,none⟩)) :: (.pointer (some ⟨g,o,none⟩)) :: undef :: undef :: (.pointer (some ⟨g4,0,none⟩)) :: undef :: undef :: undef :: v8 :: v9 :: v10 :: v11 :: v12 :: v13 :: v14 :: v15 :: v16 :: v17 :: v18 :: v19 :: v20 :: v21 :: v22 :: v23 :: v24 :: v25 :: v26 :: v27 :: v28 :: v29 :: v30 :: v31 :: v32 :: v33 :: v34 :: v35 :: v36 :: v37 :: v38 :: v39 :: v40 :: v41 :: v42 :: v43 :: v44 :: v45 :: v46 :: v47 :: v48 :: v49 :: v50 :: v51 :: v52 :: v53 :: v54 :: v55 :: v56 :: undef :: undef :: undef :: undef :: undef :: undef :: undef :: undef :: undef :: undef :: undef :: undef :: undef :: undef :: undef :: undef :: undef :: undef :: undef :: undef :: undef :: undef :: undef :: undef :: undef :: undef :: undef :: undef :: undef :: undef :: undef :: undef :: undef :: undef :: undef :: undef :: undef :: undef :: undef :: undef :: undef :: []),[]⟩ w5:=by
 conv=>arg 2;whnf
 have HP:=hide hp;have HC:=hide hC;have hgl:=hC.lt;obtain ⟨A1,C1,A2,C2,sb,so,db,dO,rfl,rfl,hL⟩:=Rep.lies HU1.out HU2.out;have HEN:=hide (Cd.z6g 1 p.h 0 0 dl (p.L c).done A1 A2 C1 C2 sb so db dO w5 hL);generalize Cd.encS 1 p.h 0 0 dl (p.L c).done=es at *;generalize Cd.z0t 1 p.h 0 0 dl (p.L c).done=E0 at *;have k0:w5.cell? ⟨g4,0,none⟩=some (.int .i64 1):=HK.out.cell 0;have k1:w5.cell? ⟨g4,0+1,none⟩=some (.int .i64 p.h):=HK.out.cell 1;have k2:w5.cell? ⟨g4,0+2,none⟩=some (.int .i64 0):=HK.out.cell 2;have k3:w5.cell? ⟨g4,0+3,none⟩=some (.int .i64 0):=HK.out.cell 3;have k4:w5.cell? ⟨g4,0+4,none⟩=some (.slice A1 dl.length C1):=HK.out.cell 4;have k5:w5.cell? ⟨g4,0+5,none⟩=some (.slice A2 (p.L c).done.length C2):=HK.out.cell 5;clear hL HK HU1 HU2 hC hp
 by_cases hE:E0=0
 rotate_left
 ·have hq:Hid (D=p):=HD.out.trans (if_neg hE);have hE':(E0 != 0)=true:=by simpa using hE
  clear HD
  go_wp2_with (go_at_call 122;refine HEN.out.mono ?_;rintro e w6 ⟨rfl,hb6⟩;have HB6:=hide (zbt HB.out hb6);clear hb6)
  go_end0;rw[hq.out];exact ⟨v,rfl,HC.out.over HB6.out,HP.out.z2s HB6.out 0,Alt.of HB6.out⟩
 subst hE;replace HD:=hide (HD.out.trans (if_pos rfl))
 go_upto_region 4 with (go_at_call 122;refine HEN.out.mono ?_;rintro e w6 ⟨rfl,hb6⟩;have HB6:=hide (zbt HB.out hb6);clear hb6 k0 k1 k2 k3 k4 k5)
 have hsz6:=HB6.out.size;obtain ⟨As,ns,Cs,es'⟩:=(HP.out.lk c hc).said.one';obtain ⟨Ae,ne,Ce,ee'⟩:=(HP.out.lk c hc).due.one';have HSY:=hide (fun (wx:World) (hb:Below w6.heap.size w6 wx)=>q7r (p.L c).out es (p.t+40) (v.l c).said (v.l c).due (fun b=>P b/\b<w.heap.size) wx (((HP.out.lk c hc).said.mono fun b hl h=>⟨h,hl⟩).over (HB6.out.trans (hb.mono hsz6))) (((HP.out.lk c hc).due.mono fun b hl h=>⟨h,hl⟩).over (HB6.out.trans (hb.mono hsz6))));rw[es',ee']at HSY
 have HF:Hid (∀ wx,Below w6.heap.size w6 wx->wx.cell? ⟨g,o+6,none⟩=some (.slice As ns Cs)/\wx.cell? ⟨g,o+6+1,none⟩=some (.slice Ae ne Ce)/\wx.cell? ⟨g,o+6+2,none⟩=some (.int .i64 (p.L c).out.g)/\wx.cell? ⟨g,o+6+3,none⟩=some (.bool (p.L c).out.cl)/\wx.cell? ⟨g,1,none⟩=some (.int .i64 p.t)):=fun wx hb=>by
  have C:=HC.out.over (HB6.out.trans (hb.mono hsz6));have hf:=(C.lk hc).facts;rw[← HO.out,es',ee']at hf;exact ⟨hf.2.2.2.2.2.2.1,hf.2.2.2.2.2.2.2.1,hf.2.2.2.2.2.2.2.2.1,hf.2.2.2.2.2.2.2.2.2,C.cell 1⟩
 clear es' ee';generalize Ln.z5b (p.L c).out es (p.t+40)=x at *;generalize Ln.z6x (p.L c).out (p.t+40)=E1 at *;generalize (p.L c).out.g=gg at *;generalize (p.L c).out.cl=gc at *;have HAL:Hid (Below w6.heap.size w6 (w6.alloc (.cells Z4 47))):=znw w6 _;have HALd:=hide HAL.out.drew;have HACd:Hid (CAt 47 (w6.alloc (.cells Z4 47)).drew w6.heap.size Z4):=CAt.new 47 w6 Z4;have HSZ:Hid (w6.heap.size+1<=(w6.alloc (.cells Z4 47)).drew.heap.size):=HACd.out.lt;have HS6:=hide hsz6;have hwr:IntKind.i64.wrap (p.t+40)=p.t+40:=z7V (by omega) (by omega)
 clear hsz6 HEN;unfold Z4 at HAL HALd;apply j2d (fun A n C A' n' C' g7 w'=>Sds P w w6 x (.slice A n C) (.slice A' n' C') g7 w')
 ·refine wp_region_noPanic ?_;refine wp_region_held_drew (S:=fun wx=>Below w6.heap.size w6 wx) (by kernel_rfl) (Below.refl _ _).drew (fun hS=>?_)
  refine Od.Z 0 (.pointer (some ⟨g,o,none⟩)) 65 rfl rfl hS (fun wx hSw=>?_) ?_
  ·try dsimp only at hSw
   go_simp
  simp only[Od.pp,Od.pb,Od.pc];refine Od.Z 1 (.pointer (some ⟨g,o,none⟩)) 66 rfl rfl hS (fun wx hSw=>?_) ?_
  ·try dsimp only at hSw
   go_simp
  simp only[Od.pp,Od.pb,Od.pc];refine Od.Z 2 (.pointer (some ⟨g,o+6,none⟩)) 67 rfl rfl hS (fun wx hSw=>?_) ?_
  ·try dsimp only at hSw
   go_simp
  simp only[Od.pp,Od.pb,Od.pc];refine Od.Z 3 (.agg #[.slice As ns Cs,.slice Ae ne Ce,.int .i64 gg,.bool gc]) 68 rfl rfl hS (fun wx hSw=>?_) ?_
  ·try dsimp only at hSw
   obtain ⟨l6,l7,l8,l9,l1⟩:=HF.out wx hSw;go_simp
  simp only[Od.pp,Od.pb,Od.pc];refine Od.Z 4 (.string es) 69 rfl rfl hS (fun wx hSw=>?_) ?_
  ·try dsimp only at hSw
   go_simp
  simp only[Od.pp,Od.pb,Od.pc];refine Od.Z 5 (.pointer (some ⟨g,0,none⟩)) 70 rfl rfl hS (fun wx hSw=>?_) ?_
  ·try dsimp only at hSw
   go_simp
  simp only[Od.pp,Od.pb,Od.pc];refine Od.Z 6 (.pointer (some ⟨g,0,none⟩)) 71 rfl rfl hS (fun wx hSw=>?_) ?_
  ·try dsimp only at hSw
   go_simp
  simp only[Od.pp,Od.pb,Od.pc];refine Od.Z 7 (.pointer (some ⟨g,1,none⟩)) 72 rfl rfl hS (fun wx hSw=>?_) ?_
  ·try dsimp only at hSw
   go_simp
  simp only[Od.pp,Od.pb,Od.pc];refine Od.Z 8 (.int .i64 p.t) 73 rfl rfl hS (fun wx hSw=>?_) ?_
  ·try dsimp only at hSw
   obtain ⟨l6,l7,l8,l9,l1⟩:=HF.out wx hSw;go_simp
  simp only[Od.pp,Od.pb,Od.pc];refine Od.Z 9 (.int .i64 (p.t+40)) 74 rfl rfl hS (fun wx hSw=>?_) ?_
  ·try dsimp only at hSw
   go_simp
  simp only[Od.pp,Od.pb,Od.pc];refine Od.z3g (i:=10) (j:=14) (by kernel_rfl) rfl rfl rfl rfl (fun K hK=>?_) (fun K hK=>?_)
  ·go_simp
   go_at_call 123
   refine (HSY.out _ (by with_reducible exact (Below.refl w6.heap.size w6).drew)).mono ?_
   rintro e wb ⟨u1,u2,rfl,U1,U2,hbb⟩;obtain ⟨Au,nu,Cu,rfl⟩:=U1.one';obtain ⟨Aw,nw,Cw,rfl⟩:=U2.one';have hb:=(Below.refl w6.heap.size w6).drew.trans (hbb.mono (Below.refl w6.heap.size w6).drew.size);dsimp only;refine hK _ _ hb ?_;clear hK K
   try simp only[Od.pp,Od.pb,Od.pc]
   refine Od.Z 11 (.tuple #[.agg #[.slice Au nu Cu,.slice Aw nw Cw,.int .i64 x.g,.bool x.cl],.int .i64 E1]) 64 rfl rfl hb (fun wx hSw=>?_) ?_
   ·try dsimp only at hSw
    go_simp
   simp only[Od.pp,Od.pb,Od.pc];refine Od.Z 12 (.agg #[.slice Au nu Cu,.slice Aw nw Cw,.int .i64 x.g,.bool x.cl]) 76 rfl rfl hb (fun wx hSw=>?_) ?_
   ·try dsimp only at hSw
    go_simp
   simp only[Od.pp,Od.pb,Od.pc];refine Od.Z 13 (.int .i64 E1) 77 rfl rfl hb (fun wx hSw=>?_) ?_
   ·try dsimp only at hSw
    go_simp
   simp only[Od.pp,Od.pb,Od.pc];refine Od.z0Q (i:=14) (by kernel_rfl) rfl rfl (fun K hK=>?_)
   go_simp;refine hK _ _ (hb.alloc hb.size _) ?_;clear hK K
   try simp only[Od.pp,Od.pb,Od.pc]
   obtain ⟨wS,sA,hST⟩:=j4d (P:=P) HS6.out (Nat.le_refl _) U1 U2 hb;unfold Z4 at sA;refine Od.z0Q (i:=15) (by kernel_rfl) rfl rfl (fun K hK=>?_)
   go_simp;refine hK _ _ hST.bel ?_;clear hK K;refine Od.Z 16 (.int .i64 E1) 6 rfl rfl hST.bel (fun wx hSw=>?_) ?_
   ·try dsimp only at hSw
    go_simp
   simp only[Od.pp,Od.pb,Od.pc];refine wpAnyH_done (by kernel_rfl) ?_ _
   obtain ⟨gn,hg'⟩:∃ gn,gn=wb.heap.size:=⟨_,rfl⟩;rw[← hg']at hST ⊢;exact NoPanic.normal ⟨Au,nu,Cu,Aw,nw,Cw,gn,rfl,rfl,hST⟩
  ·go_simp;refine hK _ _ (hS.alloc hS.size _) ?_;clear hK K
   try simp only[Od.pp,Od.pb,Od.pc]
   refine Od.z0Q (i:=10) (by kernel_rfl) rfl rfl (fun K hK=>?_)
   go_simp
   go_at_call 123
   refine (HSY.out _ (by with_reducible exact HALd.out)).mono ?_
   rintro e wb ⟨u1,u2,rfl,U1,U2,hbb⟩;obtain ⟨Au,nu,Cu,rfl⟩:=U1.one';obtain ⟨Aw,nw,Cw,rfl⟩:=U2.one';have hb:=zbt HALd.out hbb;dsimp only;refine hK _ _ hb ?_;clear hK K
   try simp only[Od.pp,Od.pb,Od.pc]
   refine Od.Z 11 (.tuple #[.agg #[.slice Au nu Cu,.slice Aw nw Cw,.int .i64 x.g,.bool x.cl],.int .i64 E1]) 64 rfl rfl hb (fun wx hSw=>?_) ?_
   ·try dsimp only at hSw
    go_simp
   simp only[Od.pp,Od.pb,Od.pc];refine Od.Z 12 (.agg #[.slice Au nu Cu,.slice Aw nw Cw,.int .i64 x.g,.bool x.cl]) 76 rfl rfl hb (fun wx hSw=>?_) ?_
   ·try dsimp only at hSw
    go_simp
   simp only[Od.pp,Od.pb,Od.pc];refine Od.Z 13 (.int .i64 E1) 77 rfl rfl hb (fun wx hSw=>?_) ?_
   ·try dsimp only at hSw
    go_simp
   simp only[Od.pp,Od.pb,Od.pc];obtain ⟨wS,sC,hST⟩:=j3z (P:=P) HS6.out HSZ.out U1 U2 hb (HACd.out.over hbb);refine Od.z0Q (i:=15) (by kernel_rfl) rfl rfl (fun K hK=>?_)
   go_simp;refine hK _ _ hST.bel ?_;clear hK K;refine Od.Z 16 (.int .i64 E1) 6 rfl rfl hST.bel (fun wx hSw=>?_) ?_
   ·try dsimp only at hSw
    go_simp
   simp only[Od.pp,Od.pb,Od.pc];refine wpAnyH_done (by kernel_rfl) ?_ _
   obtain ⟨gn,hg'⟩:∃ gn,gn=w6.heap.size:=⟨_,rfl⟩;rw[← hg']at hST ⊢;exact NoPanic.normal ⟨Au,nu,Cu,Aw,nw,Cw,gn,rfl,rfl,hST⟩
 rintro Au nu Cu Aw nw Cw g7 w7 S7;simp only[Exit.then];apply_assumption;refine j2m g p D v P w w7 c o g7 x _ _ E1 hc HC.out HP.out hg HO (HB6.out.trans (S7.bel.mono HS6.out)) (Nat.le_trans HS6.out S7.le) S7.cat S7.r1 S7.r2 HD _ _ _ _ _ _ _ _ _ _ _ _ _ _ _ _ _ _ _ _ _ _ _ _ _ _ _ _ _ _ _ _ _ _ _ _ _ _ _ _ _ _ _ _ _ _ _ _ _ _ _ _ _ _ _ _ _ _ _ _ _ _ _ _ _ _ _ _ _ _ _ _ _ _ _ _ _ _ _ _ _ _ _ _ _ _ _ _ _ _ _ _ _ _
end Pv
end Go.Proofs.YtmopekkhmhhcaaaGreat
