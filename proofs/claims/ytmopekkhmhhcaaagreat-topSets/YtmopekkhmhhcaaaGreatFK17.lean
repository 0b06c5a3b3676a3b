/- Parts of the proof. -/
import Derived.Test.YtmopekkhmhhcaaaGreatFL
import Derived.Test.YtmopekkhmhhcaaaGreatFK41
import Derived.Test.YtmopekkhmhhcaaaGreatFK44
set_option maxRecDepth 100000
set_option maxHeartbeats 16000000
namespace Go.Proofs.YtmopekkhmhhcaaaGreat
open Go.Proofs.Tryz
namespace Pv
open Go.RowKit
abbrev QE:=(Int×Pkt)×(Value×Value)
def qeL(b:QE):List Value:=akL b.1 b.2
theorem q1Q:∀ L:List QE,L.flatMap qeL=quL (L.map (·.1)) (L.map (·.2))
 | []=>rfl
 | a :: L=>by rw[List.flatMap_cons,q1Q L];rfl
theorem q0F{ops:Array Oper}{rest:List Oper}{o:Oper}{a:Act}{w:World}{Q:Exit->Act->World->Prop}(hgd:o.guard=none)(s x:Operand)(t:TypeId)
  (ho:o.op=.call { callee:=.builtin .append,args:=#[s,x],argTypes:=#[t,t] })
  (base:Nat) (e:TypeId) (i:TypeInfo) (z:Value) (size bytes:Nat) (ht:prog.underlying t=some (.slice e)) (hi:prog.info? e=some i) (hz:i.zero=some z)
  (hsize:i.size=size) (hby:i.bytes=bytes) (hzs:z.cells.size=size) (hsz:0<size)
  (v:Value) (n:Nat) (xs:List Value) (hs:a.eval s=v) (hown:w.ownsRow base e size v n xs)
  (ad:Addr) (m c:Nat) (news:List Value) (hx:a.eval x=.slice (some ad) m c) (hl:news.length=m * size) (hnews:∀ j u,news[j]?=some u->w.cell? (ad.add j)=some u) (h1:∀ u∈news,u.oneCell'=true)
  (hm:0<m) (h63:n+m<=maxLen) (hbytes:(n+m) * bytes<=140737488355328) (hbase:base<=w.heap.size)
  (h:∀ g cap w',w'.ownsRow base e size (.slice (some ⟨g,0,none⟩) (n+m) cap) (n+m) (xs ++ news)->w.grownBy w' v.ownBlock->(v.ownBlock=some g∨g=w.heap.size)->g<w'.heap.size->wpList prog ops Q rest (a.put o.dst (.slice (some ⟨g,0,none⟩) (n+m) cap)) w'):wpList prog ops Q (o :: rest) a w:=by
 refine wpList_plain hgd fun K hK'=>?_;have:=step_append_lies (P:=prog) (ops:=ops) (o:=o) (a:=a) (w:=w) (K:=K) (Q:=Q) (E:=False) hgd s x t ho base e i z size bytes ht hi hz hsize hby hzs hsz v n xs hs hown ad m c news hx hl hnews h1 hm h63 hbytes hbase w.heap.size rfl (fun g cap w' r1 r2 r3 r4=>hK' _ _ (h g cap w' r1 r2 r3 r4));have hw:Region.wanted o (yielded ops a.tmps)=true:=by simp[Region.wanted,hgd]
 rwa [if_pos hw]at this
structure WoS(w:World)(L:List QE)(lv:Value)(wl:World):Prop where
 B:Below w.heap.size w wl
 own:wl.ownsRow w.heap.size 85 7 lv L.length (L.flatMap qeL)
theorem j2U(w:World)(b:QE)(j:Nat)(v:Value)(hj:(qeL b)[j]?=some v):(w.alloc (.cells #[.int .i64 b.1.1,.int .i64 b.1.2.k,.int .i64 b.1.2.i,.int .i64 b.1.2.v,.int .i64 b.1.2.n,b.2.1,b.2.2] 85)).cell? ((⟨w.heap.size,0,none⟩:Addr).add j)=some v:=by
 rw[Addr.add_lit,Nat.zero_add,(CAt.new 85 w #[.int .i64 b.1.1,.int .i64 b.1.2.k,.int .i64 b.1.2.i,.int .i64 b.1.2.v,.int .i64 b.1.2.n,b.2.1,b.2.2]).cell j]
 simpa [qeL,akL] using hj
theorem q1w(q:List (Int×Pkt))(v:Value)(P:Nat->Prop)(w:World)(c:Int)(hq:q4q P w v q)(h88:q.length * 88<=140737488351232) :
  Calls prog 134 #[v,.int .i64 c] w fun e w'=>∃ u,e=.returned u/\q4q (New P w 0) w' u (q.filter fun a=>decide (a.1≠c))/\Below w.heap.size w w':=by
 obtain⟨z,hzl,hzr,hzi⟩:=hq;obtain⟨Aq,Cq,rfl,sq,-,cq,-⟩:=hzr.open (z2x _ _ hzl) (by decide)
 obtain⟨i0,hi,hz0,hz1,hz2⟩:=info_parts q9b;have hq63:q.length<=1800000000000:=by omega
 have HC:=hide cq;have HI:=hide (show _/\_ from⟨hzl,hzi⟩);have H88:=hide h88;have hqz:(q.zip z).length=q.length:=by simp[hzl]
 have HQZ:=hide hqz;clear hzr cq hzl hzi sq h88 hqz
 go_enter func134,ntmps134
 go_upto_region 3 with fail
 go_loopw [5,10] (fun lv i wl=>∃ (k:Nat),k<=q.length/\i=.int .i64 (k:Int)/\Hid (WoS w (((q.zip z).take k).filter fun b=>decide (b.1.1≠c)) lv wl)) (fun _ i _=>q.length - (intOf i).toNat)
 case atStart=>exact⟨0,Nat.zero_le _,rfl,Below.refl _ _,World.ownsRow_nil _ _ _ _⟩
 case round =>
  obtain⟨k,hk,rfl,HW⟩:=hrel
  by_cases hlt:k<q.length
  ·have hkI:(k:Int)<(q.length:Int):=by omega
   obtain⟨x,hx⟩:∃ x,q[k]?=some x:=⟨_,List.getElem?_eq_getElem hlt⟩;obtain⟨y,hy⟩:∃ y,z[k]?=some y:=⟨_,List.getElem?_eq_getElem (by rw[HI.out.1];exact hlt)⟩
   have hin:=HI.out.2 k x y hx hy;have hzk:(q.zip z)[k]?=some (x,y):=by simp[List.getElem?_zip_eq_some,hx,hy]
   have htk:(q.zip z).take (k+1)=(q.zip z).take k ++ [(x,y)]:=(take_one hzk).symm;obtain⟨y1,y2⟩:=y;obtain⟨⟨B1,n1,D1,ey1,-⟩,⟨B2,n2,D2,ey2,-⟩⟩:=id hin;dsimp only at ey1 ey2;subst ey1 ey2;obtain⟨bq,oq,rfl,-,hbl,hcell⟩:=HC.out (by omega)
   have hc:∀ j,j<7->∀ u,(akL x (.slice B1 n1 D1,.slice B2 n2 D2))[j]?=some u->wr.cell? ⟨bq,oq+k * 7+j,none⟩=some u:=fun j hj u hu=>by
    rw[HW.out.B.cell (p:=⟨bq,oq+k * 7+j,none⟩) hbl,Nat.add_assoc];exact hcell _ _ ((z6S q z k x _ j hx hy hj).trans hu)
   have e0:=hc 0 (by omega) _ rfl
   have e1:=hc 1 (by omega) _ rfl
   have e2:=hc 2 (by omega) _ rfl
   have e3:=hc 3 (by omega) _ rfl
   have e4:=hc 4 (by omega) _ rfl
   have e5:=hc 5 (by omega) _ rfl
   have e6:=hc 6 (by omega) _ rfl
   rw[Nat.add_zero]at e0;have b1:Below wr.heap.size wr (wr.alloc (.cells #[.int .i64 x.1,.int .i64 x.2.k,.int .i64 x.2.i,.int .i64 x.2.v,.int .i64 x.2.n,.slice B1 n1 D1,.slice B2 n2 D2] 85)):=znw wr _;have Bw:=zbt HW.out.B b1;have Ow:=Ln.z4g HW.out.own b1;have HTK:=hide htk;have hsz:=HW.out.B.size;have hll:(((q.zip z).take k).filter fun b=>decide (b.1.1≠c)).length<=k:=Nat.le_trans (List.length_filter_le _ _) (List.length_take_le _ _);clear hc hcell hin hx hy hzk htk
   by_cases hne:x.1=c
   ·have hnb:(x.1 != c)=false:=by simpa using hne
    have HF:Hid (WoS w (((q.zip z).take (k+1)).filter fun b=>decide (b.1.1≠c)) u5 (wr.alloc (.cells #[.int .i64 x.1,.int .i64 x.2.k,.int .i64 x.2.i,.int .i64 x.2.v,.int .i64 x.2.n,.slice B1 n1 D1,.slice B2 n2 D2] 85))):=by
     rw[HTK.out,List.filter_append,show List.filter (fun b:QE=>decide (b.1.1≠c)) [(x,(.slice B1 n1 D1,.slice B2 n2 D2))]=[] by simp[hne],List.append_nil]
     exact⟨Bw,Ow⟩
    clear Bw Ow HW b1 hne;go_wp2
    first | exact⟨⟨k+1,by omega,by go_num,HF⟩,by simp[intOf];omega⟩ | ((repeat apply Exists.intro);exact⟨⟨k+1,by omega,by go_num,HF⟩,rfl⟩)
   ·have hnb:(x.1 != c)=true:=by simpa using hne
    have HFL:Hid (((q.zip z).take (k+1)).filter (fun b=>decide (b.1.1≠c))=((q.zip z).take k).filter (fun b=>decide (b.1.1≠c)) ++ [(x,(.slice B1 n1 D1,.slice B2 n2 D2))]):=by
     show _=_
     rw[HTK.out,List.filter_append]
     congr 1
     simp[hne]
    generalize ((q.zip z).take k).filter (fun b=>decide (b.1.1≠c))=L at *
    go_upto_region 6 with fail
    have K1:=CAt.new 85 wr #[.int .i64 x.1,.int .i64 x.2.k,.int .i64 x.2.i,.int .i64 x.2.v,.int .i64 x.2.n,.slice B1 n1 D1,.slice B2 n2 D2];generalize wr.alloc (.cells #[.int .i64 x.1,.int .i64 x.2.k,.int .i64 x.2.i,.int .i64 x.2.v,.int .i64 x.2.n,.slice B1 n1 D1,.slice B2 n2 D2] 85)=w2 at *;have t0:w2.cell? ⟨wr.heap.size,0,none⟩=some (.int .i64 x.1):=K1.cell 0;have t1:w2.cell? ⟨wr.heap.size,1,none⟩=some (.int .i64 x.2.k):=K1.cell 1;have t2:w2.cell? ⟨wr.heap.size,2,none⟩=some (.int .i64 x.2.i):=K1.cell 2;have t3:w2.cell? ⟨wr.heap.size,3,none⟩=some (.int .i64 x.2.v):=K1.cell 3;have t4:w2.cell? ⟨wr.heap.size,4,none⟩=some (.int .i64 x.2.n):=K1.cell 4;have t5:w2.cell? ⟨wr.heap.size,5,none⟩=some (.slice B1 n1 D1):=K1.cell 5;have t6:w2.cell? ⟨wr.heap.size,6,none⟩=some (.slice B2 n2 D2):=K1.cell 6;have hzk1:=K1.lt;obtain⟨AL,CL,eL⟩:=Ln.z3E Ow;subst eL;have hb88:=H88.out;clear e0 e1 e2 e3 e4 e5 e6 K1 HW;apply wp_region_lit
    iterate 9 go_step
    refine q0F rfl _ _ 55 rfl w.heap.size 85 i0 _ 7 88 underlying55 hi hz0 hz1 hz2 rfl (by decide) (.slice AL L.length CL) L.length (L.flatMap qeL) rfl (Ln.z4g Ow (znw w2 _)) ⟨w2.heap.size,0,none⟩ 1 1 (qeL (x,(.slice B1 n1 D1,.slice B2 n2 D2))) rfl rfl (fun j u hu=>j2U w2 (x,(.slice B1 n1 D1,.slice B2 n2 D2)) j u hu) (fun u hu=>by simp only[qeL,akL,List.mem_cons,List.not_mem_nil,or_false]at hu;rcases hu with rfl | rfl | rfl | rfl | rfl | rfl | rfl <;> rfl) (by decide) (by unfold maxLen;omega) (by omega) (by simp;omega) ?_
    intro g cap w7 ho7 hg7 hat hlt7;have B7:Below w.heap.size w w7:=(Bw.alloc (by have:=Bw.size;omega) _).grown hg7 (by simp;have:=Bw.size;omega) (fun x hx=>(World.ownsRow.lt Ow x hx).1)
    have HF:Hid (WoS w (((q.zip z).take (k+1)).filter fun b=>decide (b.1.1≠c)) (.slice (some ⟨g,0,none⟩) (L.length+1) cap) w7):=by
     rw[HFL.out];refine⟨B7,?_⟩;rw[List.flatMap_append,List.length_append]
     simpa using ho7
    clear ho7 hg7 hat hlt7 B7 Ow Bw b1 t0 t1 t2 t3 t4 t5 t6 hi hz0 hz1 hz2;go_simp
    go_upto_region 7 with fail
    go_wp2
    first | exact⟨⟨k+1,by omega,by go_num,HF⟩,by simp[intOf];omega⟩ | ((repeat apply Exists.intro);exact⟨⟨k+1,by omega,by go_num,HF⟩,rfl⟩)
  ·obtain rfl:k=q.length:=by omega
   have HZ:Hid (q4q (New P w 0) wr u5 (q.filter fun a=>decide (a.1≠c))/\Below w.heap.size w wr):=by
    have hW:=HW.out;rw[List.take_of_length_le (by rw[HQZ.out];exact Nat.le_refl _)]at hW
    have hmf:(q.zip z).map (·.1)=q:=List.map_fst_zip (by rw[HI.out.1];exact Nat.le_refl _)
    have hqf:q.filter (fun a=>decide (a.1≠c))=((q.zip z).filter fun b=>decide (b.1.1≠c)).map (·.1):=by
     conv=>lhs;rw[← hmf]
     rw[List.filter_map];rfl
    have hll:((q.zip z).filter fun b=>decide (b.1.1≠c)).length<=q.length:=by rw[← HQZ.out];exact List.length_filter_le _ _
    have hb88:=H88.out
    have hmem:∀ b∈((q.zip z).filter fun b=>decide (b.1.1≠c)),Rep P w b.2.1 2 16 (pwC b.1.2.S)/\Rep P w b.2.2 1 8 (inC b.1.2.D):=fun b hb=>by
     obtain⟨j,hj⟩:=List.getElem?_of_mem (List.mem_filter.1 hb).1;rw[List.getElem?_zip_eq_some]at hj;exact HI.out.2 j b.1 b.2 hj.1 hj.2
    rw[hqf];generalize (q.zip z).filter (fun b=>decide (b.1.1≠c))=L at *;refine⟨⟨L.map (·.2),by simp,?_,fun i x y hx hy=>?_⟩,hW.B⟩
    ·rw[← q1Q];exact (Rep.own hW.own (by omega)).mono fun b _ hb=>.inr hb
    ·rw[List.getElem?_map]at hx hy
     rcases hb:L[i]? with _ | b
     ·rw[hb]at hx;simp at hx
     ·rw[hb]at hx hy
      simp at hx hy
      subst hx hy;have:=hmem b (List.mem_of_getElem? hb);exact⟨(this.1.mono (P':=New P w 0) fun b hl hP=>.inl ⟨hP,hl⟩).over hW.B,(this.2.mono (P':=New P w 0) fun b hl hP=>.inl ⟨hP,hl⟩).over hW.B⟩
   obtain⟨A',C',e'⟩:=Ln.z3E HW.out.own;subst e';clear HW;go_wp2;go_ret;exact⟨_,rfl,HZ.out.1,HZ.out.2⟩
end Pv
namespace Pv
open Go.RowKit
def z4E(w:World)(g:Nat)(P:Nat->Prop)(r:Pr×Bool)(e:Ending)(w':World):Prop:=∃ v',e=.returned (.bool r.2)/\CAt 57 w' g (prC r.1 v')/\PIn (New P w 0) w' r.1 v'/\Alt g w w'
attribute [local go_sem ↓] z1K z0K z0q z1y
theorem q1K(g:Nat)(p:Pr)(v:PrV)(P:Nat->Prop)(w:World)(c:Nat)(hc:c<2)(x:Pkt)(y1 y2:Value)(hC:CAt 57 w g (prC p v))(hp:PIn P w p v)(hg:¬ P g)(hgs:z0i p.s=true)(hk:x.k=4)(hv:x.k=3∨x.k=4->0<=x.v/\x.v<6) :
  Calls prog 114 #[.pointer (some ⟨g,0,none⟩),.agg #[.int .i64 (c:Int),.int .i64 x.k,.int .i64 x.i,.int .i64 x.v,.int .i64 x.n,y1,y2]] w (z4E w g P (z1F p c x)):=by
 have hD:z1F p c x=if x.k=2 then ({ p with s:={ p.s with W:=z5D c x.i p.s.W } },true)
  else if x.k=4 then
   if (p.s.V x.v.toNat).dead=true then (p,true) else ({ p with s:=z7o p.s x.v.toNat (q1V x.i (p.L c).base) },true)
  else if (p.s.V x.v.toNat).jail=true then ({ p with L:=z0Q p.L c { p.L c with done:=z3h (p.L c).done x.v } },true)
  else if p.ml<1 then (p,false)
  else ({ p with ml:=wrap64 (p.ml - z9F (p.s.V x.v.toNat)),s:=z4y p.s x.v.toNat true (p.s.V x.v.toNat).dead,L:=z0Q p.L c { p.L c with done:=z3h (p.L c).done x.v } },true):=by unfold z1F;rfl
 generalize z1F p c x=D at *;have HD:=hide hD;have HKX:=hide hk;clear hk;have HP:=hide hp;have hgl:=hC.lt;have hcc:(c:Int)<2:=by omega
 have hcz:(0:Int)<=(c:Int):=by omega
 clear hD
 go_enter func114,ntmps114
 go_upto_region 1 with fail
 have K0:=CAt.new 85 w #[.int .i64 (c:Int),.int .i64 x.k,.int .i64 x.i,.int .i64 x.v,.int .i64 x.n,y1,y2];have b0:Below w.heap.size w (w.alloc (.cells #[.int .i64 (c:Int),.int .i64 x.k,.int .i64 x.i,.int .i64 x.v,.int .i64 x.n,y1,y2] 85)):=znw w _;generalize w.alloc (.cells #[.int .i64 (c:Int),.int .i64 x.k,.int .i64 x.i,.int .i64 x.v,.int .i64 x.n,y1,y2] 85)=w0 at *;have k0:w0.cell? ⟨w.heap.size,0,none⟩=some (.int .i64 (c:Int)):=K0.cell 0;have hz0:=K0.lt;have H0:=hide (show _/\_/\_ from⟨hC.over b0,K0,b0⟩);clear hC hp K0 b0;go_quiet (fail);simp only[Exit.then];apply_assumption;have C1:=H0.out.1.over (below_drewN (Below.refl w0.heap.size w0) nq);have K1:=H0.out.2.1.over (below_drewN (Below.refl w0.heap.size w0) nq);have b1:=below_drewN H0.out.2.2 nq;clear k0 H0;generalize w0.drewN nq=w1 at *;have k00:w1.cell? ⟨w.heap.size,0,none⟩=some (.int .i64 (c:Int)):=K1.cell 0;have k1:w1.cell? ⟨w.heap.size,1,none⟩=some (.int .i64 x.k):=K1.cell 1;have k2:w1.cell? ⟨w.heap.size,2,none⟩=some (.int .i64 x.i):=K1.cell 2;have k3:w1.cell? ⟨w.heap.size,3,none⟩=some (.int .i64 x.v):=K1.cell 3;have hz1:=K1.lt;have hzg:=C1.lt;have P1:=HP.out.z2T b1 0;have m1:=z2p C1;have H1:=hide (show _/\_/\_/\_ from⟨C1,K1,b1,P1⟩);clear C1 K1 b1 P1;have hk:=HKX.out;rw[hk]at k1;replace HD:=hide ((HD.out.trans (if_neg (by omega))).trans (if_pos hk))
 obtain⟨hv0,hv1⟩:=hv (.inr hk);obtain⟨n,hn,hn6⟩:∃ n:Nat,x.v=(n:Int)/\n<6:=⟨x.v.toNat,by omega,by omega⟩
 rw[hn,Int.toNat_natCast]at HD;rw[hn]at k3;have hnn:(n:Int)<6:=by omega
 have hnz:(0:Int)<=(n:Int):=by omega
 have d4:=(q1i H1.out.1 hn6).2.2;have HNV:=hide hn;clear hv hv0 hv1 hn
 go_upto_region 8 with fail
 go_quiet (fail);simp only[Exit.then];apply_assumption;have C2:=H1.out.1.over (below_drewN (Below.refl w1.heap.size w1) nq);have K2:=H1.out.2.1.over (below_drewN (Below.refl w1.heap.size w1) nq);have b2:=below_drewN H1.out.2.2.1 nq;clear k00 k1 k2 k3 d4 m1 hz1 hzg H1;generalize w1.drewN nq=w2 at *;cases hdd:(p.s.V n).dead
 ·replace HD:=hide (HD.out.trans (if_neg (by simp[hdd])))
  have e2:w2.cell? ⟨w.heap.size,2,none⟩=some (.int .i64 x.i):=K2.cell 2;have e3:w2.cell? ⟨w.heap.size,3,none⟩=some (.int .i64 (n:Int)):=by rw[← HNV.out];exact K2.cell 3
  have e6:w2.cell? ⟨g,66+c * 14+2,none⟩=some (.int .i64 (p.L c).base):=(C2.lk hc).facts.2.2.1;have hzg2:=C2.lt;have hzk2:=K2.lt;have HPU:=hide (fun (wx:World) (hb:Below w2.heap.size w2 wx)=>z7A g p v P wx n (q1V x.i (p.L c).base) (C2.over hb) ((HP.out.ws.over b2).over hb) hgs hn6 hdd);have HMX:Hid (q1V x.i (p.L c).base=if x.i<(p.L c).base then (p.L c).base else x.i):=rfl;have H2:=hide (show _/\_/\_ from⟨C2,K2,b2⟩);clear C2 K2 b2;generalize hO:66+c * 14=o at *;have HO:=hide hO;clear hO
  go_upto_region 9 with fail
  generalize hBS:(p.L c).base=bs at *;have HBS:=hide hBS;clear hBS;generalize q1V x.i bs=mx at *;generalize z7o p.s n mx=s2 at *
  have hcs:(x.i<bs/\mx=bs)∨(¬ x.i<bs/\mx=x.i):=by
   by_cases h:x.i<bs
   ·exact .inl ⟨h,HMX.out.trans (if_pos h)⟩
   ·exact .inr ⟨h,HMX.out.trans (if_neg h)⟩
  clear HMX
  rcases hcs with⟨hlt,hmx⟩ | ⟨hlt,hmx⟩
  all_goals
   rw[hmx]at HPU;apply z4l (fun w'=>∃ u,CAt 57 w' g (prC { p with s:=s2 } { v with ws:=u })/\Rep (fun b=>w2.heap.size<=b) w' u 8 64 (wsL s2.W)/\Alt g w2 w')
   ·refine wp_region_noPanic ?_;have HS2:Hid (∀ wx,Below w2.heap.size w2 wx->wx.cell? ⟨w.heap.size,2,none⟩=some (.int .i64 x.i)/\wx.cell? ⟨w.heap.size,3,none⟩=some (.int .i64 (n:Int))/\wx.cell? ⟨g,o+2,none⟩=some (.int .i64 bs)):=fun wx hb=>⟨(hb.cell (p:=⟨w.heap.size,2,none⟩) hzk2).trans e2,(hb.cell (p:=⟨w.heap.size,3,none⟩) hzk2).trans e3,(hb.cell (p:=⟨g,o+2,none⟩) hzg2).trans e6⟩
    have HSK:Hid (∀ (w3:World) (u3:Value),CAt 57 w3 g (prC { p with s:=s2 } { v with ws:=u3 })->Alt g w2.drew w3->w3.cell? ⟨w.heap.size,2,none⟩=some (.int .i64 x.i)/\w3.cell? ⟨w.heap.size,3,none⟩=some (.int .i64 (n:Int))/\w3.cell? ⟨g,o+2,none⟩=some (.int .i64 bs)):=fun w3 u3 C3 A3=>by
     have K3:=A3.cat (b:=w.heap.size) (by omega) (H2.out.2.1.over (Below.refl w2.heap.size w2).drew)
     refine⟨K3.cell 2,by rw[← HNV.out];exact K3.cell 3,?_⟩
     have h:=(C3.lk hc).facts.2.2.1;rw[HO.out,HBS.out]at h;exact h
    have hb:=Below.refl w2.heap.size w2
    go_region_held3 (fun wx=>wx.cell? ⟨w.heap.size,2,none⟩=some (.int .i64 x.i)/\wx.cell? ⟨w.heap.size,3,none⟩=some (.int .i64 (n:Int))/\wx.cell? ⟨g,o+2,none⟩=some (.int .i64 bs)) (first | exact HS3.out | (refine HS2.out _ ?_;first | with_reducible exact hb | with_reducible exact hb.drew)) ((go_at_call 81;refine (HPU.out _ (by exact (Below.refl _ _).drew)).mono ?_;rintro e w3⟨u3,rfl,C3,U3,A3⟩;have HS3:=hide (HSK.out w3 u3 C3 A3);have HW3:=hide (show _/\_/\_ from⟨C3,U3,A3⟩);clear C3 U3 A3;dsimp only))
    all_goals
     exact NoPanic.normal ⟨rfl,rfl,u3,HW3.out.1,HW3.out.2.1,(Alt.of (Below.refl _ _).drew).trans HW3.out.2.2⟩
   rintro w'⟨u,C3,U3,A3⟩;have N3:=A3.pin (z0N hg hgl) (HP.out.z2T H2.out.2.2 0);have hs2:=H2.out.2.2.size;have HZ:=hide (show _/\_/\_/\_ from⟨C3,(Alt.of (g:=g) H2.out.2.2).trans A3,U3,N3⟩);clear C3 U3 A3 N3 e2 e3 e6 hzg2 hzk2
   first | simp only[Exit.inBlock,Exit.then] | simp only[Exit.then] | skip
   apply_assumption;go_wp2;go_ret;rw[HD.out];exact⟨{ v with ws:=u },rfl,HZ.out.1,⟨HZ.out.2.2.1.mono fun b _ h=>.inr (by omega),HZ.out.2.2.2.set,HZ.out.2.2.2.lk,HZ.out.2.2.2.q⟩,HZ.out.2.1⟩
 ·replace HD:=hide (HD.out.trans (if_pos hdd));have P2:=HP.out.z2T b2 0;have HZ:=hide (show _/\_/\_ from⟨C2,b2,P2⟩);clear C2 K2 b2 P2;go_wp2;go_ret;rw[HD.out];exact⟨v,rfl,HZ.out.1,HZ.out.2.2,Alt.of HZ.out.2.1⟩
end Pv
namespace Pv
open Go.RowKit
theorem apI{P:Nat->Prop}(w:World)(A:Option Addr)(y:Nat)(l:List Int)(x:Int)(hr:Rep P w (.slice A l.length l.length) 1 8 (inC l))(h60:l.length<=60)(hy:w.cell? ⟨y,0,none⟩=some (.int .i64 x)) :
  ∃ C w',(Builtin.append_ #[45,45] 45 #[.slice A l.length l.length,.slice (some ⟨y,0,none⟩) 1 1]).run prog w=.ok (.slice (some ⟨w.heap.size,0,none⟩) (l.length+1) C) w'/\l.length+1<=C/\z6i w' w.heap.size (l ++ [x])/\Below w.heap.size w w':=by
 obtain⟨i0,hi,hz0,hz1,hz2⟩:=info_parts Ln.j7O
 have hnews:∀ j v,([.int .i64 x]:List Value)[j]?=some v->w.cell? ((⟨y,0,none⟩:Addr).add j)=some v:=fun j v hv=>by
  rw[Addr.add_lit,Nat.zero_add];have hj:=(List.getElem?_eq_some_iff.1 hv).1;obtain rfl:j=0:=by simpa using hj
  simp at hv
  rw[hy,hv]
 have new:∀ (arr tail:Array Value),arr.toList=inC (l ++ [x])->z6i (w.drew.alloc (.cells (arr ++ tail) 3)) w.heap.size (l ++ [x]):=fun arr tail ha=>by
  refine⟨arr ++ tail,heap_alloc_new w.drew _,fun i z hz=>?_⟩;have hz':(inC (l ++ [x]))[i]?=some (.int .i64 z):=by unfold inC;rw[List.getElem?_map,hz];rfl
  have hj':arr[i]?=some (Value.int .i64 z):=by rw[← ha]at hz';simpa using hz'
  rw[Array.getElem?_append_left (Array.getElem?_eq_some_iff.1 hj').1];exact hj'
 have happ:inC (l ++ [x])=inC l ++ [.int .i64 x]:=by simp[inC]
 have hcl:(inC l).length=l.length:=by simp[inC]
 have hnx:∀ n:Nat,n<=60->Builtin.nextslicecap (n+1) n * 8<=281474976710656:=fun n hn=>by
  rcases Nat.eq_zero_or_pos n with rfl | hp
  ·rw[nextslicecap_zero (by omega)];omega
  ·have:=nextslicecap_succ hp;omega
 obtain⟨A',n',C',h1,h2,h3,h4,h5⟩:=hr;cases h1;cases A with
 | none =>
  have h0:l.length=0:=by
   rcases Nat.eq_zero_or_pos l.length with h | h
   ·exact h
   ·obtain⟨b,off,e,_⟩:=h5 h;cases e
  obtain rfl:l=[]:=List.length_eq_zero_iff.1 h0;refine⟨_,_,run_append_nil (P:=prog) w 45 45 3 i0 _ underlying45 hi hz0 ⟨y,0,none⟩ 1 1 [.int .i64 x] (by rw[hz1];rfl) hnews (by omega) (by omega) (by rw[hz2];omega),grownCap_ge _ _ _ _,?_,(Below.refl _ w).drew.alloc (Nat.le_refl _) _⟩
  exact new _ _ (by simp[inC])
 | some a =>
  have hold:∀ j v,(inC l)[j]?=some v->w.cell? (a.add j)=some v:=fun j v hv=>by
   have h0:0<l.length:=by
    have:=(List.getElem?_eq_some_iff.1 hv).1;omega
   obtain⟨b,off,e,_,_,hc⟩:=h5 h0;cases e;rw[Addr.add_lit];exact hc j v hv
  refine⟨_,_,run_append_grow (P:=prog) w 45 45 3 i0 _ underlying45 hi hz0 a l.length l.length (inC l) (by rw[hz1,hcl];omega) hold ⟨y,0,none⟩ 1 1 [.int .i64 x] (by rw[hz1];rfl) hnews (by omega) (by omega) (by rw[hz2];exact hnx _ h60),grownCap_ge _ _ _ _,?_,(Below.refl _ w).drew.alloc (Nat.le_refl _) _⟩
  exact new _ _ (by simp[happ])
theorem q5d{P:Nat->Prop}{ops:Array Oper}{rest:List Oper}{o:Oper}{a:Act}{w:World}{Q:Exit->Act->World->Prop}(hgd:o.guard=none)(hty:o.type=45)(p q:Operand)
  (hop:o.op=Op.call { callee:=Callee.builtin Builtin.append,args:=#[p,q],argTypes:=#[45,45] }) (A:Option Addr) (y:Nat) (l:List Int) (x:Int) (hs:a.eval p=.slice A l.length l.length) (hx:a.eval q=.slice (some ⟨y,0,none⟩) 1 1)
  (hr:Rep P w (.slice A l.length l.length) 1 8 (inC l)) (h60:l.length<=60) (hy:w.cell? ⟨y,0,none⟩=some (.int .i64 x))
  (h:∀ g C w',g=w.heap.size->l.length+1<=C->z6i w' g (l ++ [x])->Below w.heap.size w w'->wpList prog ops Q rest (a.put o.dst (.slice (some ⟨g,0,none⟩) (l.length+1) C)) w'):wpList prog ops Q (o :: rest) a w:=by
 refine wpList_plain hgd fun K hK'=>?_;unfold Oper.wp;obtain⟨C,w',hr,hC,hrow,hB⟩:=apI w A y l x hr h60 hy
 simp[execOp,hop,resolve,invoke,builtin,hs,hx,hty,hr,Result.andThen]
 exact hK' _ _ (h _ _ _ rfl hC hrow hB)
theorem z9w(D:List Int)(u:Value)(P:Nat->Prop)(w:World)(v:Int)(hu:Rep P w u 1 8 (inC D))(hD:z2g (-1) D=true)(h0:0<=v)(h5:v<6) :
  Calls prog 178 #[u,.int .i64 v] w fun e w'=>∃ u',e=.returned u'/\Rep (New P w 0) w' u' 1 8 (inC (z3h D v))/\Below w.heap.size w w':=by
 have HC:=hide (z9S D u P w v hu);have hlen:=q4I hD
 by_cases hv:v∈D
 ·have hE:=j5s hD hv;rw[hE];have hd:decide (v∈D)=true:=by simpa using hv
  rw[hd]at HC;have HU:=hide hu;clear hu hD hE hd hv
  go_enter func178,ntmps178
  go_wp2_with (go_at_call 196;refine HC.out.mono ?_;rintro e w1⟨rfl,rfl⟩)
  go_ret;exact⟨_,rfl,HU.out.mono fun b hl hb=>.inl ⟨hb,hl⟩,Below.refl _ _⟩
 ·have hE:=q9C hD h0 (by omega) hv
  rw[← hE];have hd:decide (v∈D)=false:=by simpa using hv
  rw[hd]at HC;obtain⟨A,C,rfl,hs,hn,hc,-⟩:=hu.open (z0r _) (by decide)
  have hroom:=hu.room rfl;have b1:Below w.heap.size w (w.alloc (.cells #[.int .i64 v] 3)):=znw w _;have HU:=hide (hu.clip.over b1);have hcl:=q7O A D.length C hroom.1 (fun e=>(hn e).1) (by omega) w
  have hlen2:(D ++ [v]).length=D.length+1:=by simp
  have HS:Hid (∀ (g C':Nat) (w':World),z6i w' g (D ++ [v])->Calls prog 198 #[.slice (some ⟨g,0,none⟩) (D.length+1) C'] w' fun e w2=>e=.returned (.tuple #[])/\z6i w2 g (z5m (D ++ [v]))/\z3f g w' w2):=fun g C' w' h=>by
   have:=q7C g C' (D ++ [v]) w' h (by omega)
   rw[hlen2]at this;exact this
  have HB1:=hide b1;have HL2:=hide hlen2;have hcell:=(CAt.new 3 w #[.int .i64 v]).cell 0;have HCE:=hide hcell;clear hu hD hE hd hv hs hn hc hroom b1 hlen2 hcell
  go_enter func178,ntmps178
  go_wp2_with (first
   | (go_at_call 196;refine HC.out.mono ?_;rintro e w1⟨rfl,rfl⟩)
   | (go_at_call 197;refine hcl.mono ?_;rintro e w1⟨rfl,rfl⟩)
   | (at_builtin;refine q5d rfl rfl _ _ rfl A w.heap.size D v rfl rfl HU.out (by omega) HCE.out ?_;intro g C' w' hg hC' hrow hbel;have HG:=hide hg;have HR:=hide (show _/\_/\_ from⟨hC',hrow,hbel⟩);clear hg hC' hrow hbel)
   | (go_at_call 198;refine (HS.out _ _ _ HR.out.2.1).mono ?_;rintro e w2⟨rfl,h1⟩;have H1:=hide h1;clear h1))
  go_ret;have hz:g=w.heap.size+1:=by rw[HG.out];simp
  have hll:(z5m (D ++ [v])).length=D.length+1:=by rw[q1D];exact HL2.out
  have hR:=z6i.rep (C:=C') H1.out.1 (by rw[hll];exact HR.out.1) (by rw[hll];omega)
  rw[hll]at hR;refine⟨_,rfl,hR.mono fun b _ e=>.inr (by omega),(zbt HB1.out HR.out.2.2).trans (H1.out.2.below (by omega) ?_)⟩
  have:=HR.out.2.2.size;have:=HB1.out.size;omega
end Pv
end Go.Proofs.YtmopekkhmhhcaaaGreat
