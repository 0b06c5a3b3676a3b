/- Parts of the proof. -/
import Derived.Test.YtmopekkhmhhcaaaGreatEL
import Derived.Test.YtmopekkhmhhcaaaGreatEK20
set_option maxRecDepth 100000
set_option maxHeartbeats 16000000
namespace Go.Proofs.YtmopekkhmhhcaaaGreat
open Go.Proofs.Tryz
namespace Pv
open Go.RowKit
theorem q8d(ao:Option Addr)(n c:Nat)(hn:n<=c)(h0:ao=none->n=0)(hc:(n:Int)<4611686018427387904)(w:World):Calls prog 166 #[.slice ao n c] w fun e w'=>e=.returned (.slice ao n n)/\w=w':=by
 have h1:(n:Int)<=(c:Int):=by omega
 have h2:(0:Int)<=(n:Int):=by omega
 go_enter func166,ntmps166
 cases ao
 ·obtain rfl:=h0 rfl;go_wp2;go_ret;exact ⟨rfl,rfl⟩
 ·clear h0;go_wp2;go_ret;exact ⟨rfl,rfl⟩
theorem q9Y{P:Nat->Prop}{ops:Array Oper}{o:Oper}{a:Act}{w:World}{K:Act->World->Prop}{Q:Exit->Act->World->Prop}{E:Prop}(hg:o.guard=none)(hty:o.type=55)(p q:Operand)
  (hop:o.op=Op.call { callee:=Callee.builtin Builtin.append,args:=#[p,q],argTypes:=#[55,55] }) (A:Option Addr) (n y bt:Nat) (cs news:List Value) (hs:a.eval p=.slice A n n) (hx:a.eval q=.slice (some ⟨y,0,none⟩) 1 1)
  (hr:Rep P w (.slice A n n) 7 bt cs) (hb:n * 88<=140737488351232) (hl:news.length=7) (hy:∀ j v,news[j]?=some v->w.cell? ⟨y,j,none⟩=some v)
  (hK:∀ g C w',g=w.heap.size->n+1<=C->(∀ j u,(cs ++ news)[j]?=some u->w'.cell? ⟨g,j,none⟩=some u)->Below w.heap.size w w'->g<w'.heap.size->K (a.put o.dst (.slice (some ⟨g,0,none⟩) (n+1) C)) w') :
  if Region.wanted o (yielded ops a.tmps)=true then Oper.wp prog o a w K Q else E:=by
 obtain ⟨i0,hi,hz0,hz1,hz2⟩:=info_parts q6d;have hw:Region.wanted o (yielded ops a.tmps)=true:=by simp[Region.wanted,hg]
 rw[if_pos hw];unfold Oper.wp;obtain ⟨C,w',hr,hC,hWs,hB,hlt⟩:=apR 55 85 i0 _ underlying55 hi hz0 w A n y bt cs news (by rw[hz1];exact hr) (by rw[hz2];exact hb) (by rw[hz2];omega) (by rw[hz2];omega) (by rw[hz1];exact hl) hy
 simp[execOp,hop,resolve,invoke,builtin,hs,hx,hty,hr,Result.andThen]
 exact hK _ _ _ rfl hC hWs hB hlt
theorem q3m.app{P P':Nat->Prop}{w w':World}{q:List (Int×Pkt)}{z:List (Value×Value)}{x:Int×Pkt}{y:Value×Value}(hl:z.length=q.length)(hz:∀ (i:Nat) (x:Int×Pkt) (y:Value×Value),q[i]?=some x->z[i]?=some y->Rep P w y.1 2 16 (pwC x.2.S)/\Rep P w y.2 1 8 (inC x.2.D))(hP:∀ b,b<w.heap.size->P b->P' b)(hb:Below w.heap.size w w')(hy:Rep P' w' y.1 2 16 (pwC x.2.S)/\Rep P' w' y.2 1 8 (inC x.2.D))(hb88:q.length * 88<=140737488351232){g C:Nat}(hC:q.length+1<=C)(hg:P' g)(hlt:g<w'.heap.size)(hc:∀ j u,(quL q z ++ akL x y)[j]?=some u->w'.cell? ⟨g,j,none⟩=some u):q3m P' w' (.slice (some ⟨g,0,none⟩) (q.length+1) C) (q ++ [x]):=by
 refine ⟨z ++ [y],by simp[hl],⟨_,q.length+1,C,rfl,?_,by omega,⟨fun h=>(by cases h),hC⟩,fun _=>⟨g,0,rfl,hg,hlt,fun j u hu=>?_⟩⟩,fun i a b ha hb'=>?_⟩
 ·rw[z2i _ _ (by simp[hl])];simp
 ·rw[q2b q z x y hl]at hu;rw[Nat.zero_add];exact hc j u hu
 ·by_cases hi:i<q.length
  ·rw[List.getElem?_append_left hi]at ha;rw[List.getElem?_append_left (by omega)]at hb'
   have:=hz i a b ha hb';exact ⟨(this.1.mono hP).over hb,(this.2.mono hP).over hb⟩
  ·rw[List.getElem?_append_right (by omega)]at ha hb'
   have e1:=(List.getElem?_eq_some_iff.1 ha).1;have e2:i - q.length=0:=by simpa using e1
   rw[e2]at ha;rw[hl,e2]at hb';cases ha;cases hb';exact hy
theorem j7T(w:World)(x:Int×Pkt)(y:Value×Value)(j:Nat)(v:Value)(hj:(akL x y)[j]?=some v):(w.alloc (.cells #[.int .i64 x.1,.int .i64 x.2.k,.int .i64 x.2.i,.int .i64 x.2.v,.int .i64 x.2.n,y.1,y.2] 85)).drew.cell? ⟨w.heap.size,j,none⟩=some v:=by
 have h:=((CAt.new 85 w #[.int .i64 x.1,.int .i64 x.2.k,.int .i64 x.2.i,.int .i64 x.2.v,.int .i64 x.2.n,y.1,y.2]).over (Below.refl _ _).drew).cell j;rw[h]
 simpa [akL] using hj
attribute [local go_sem ↓] z1C z0J z0y z1v
theorem q6j(p:Pr)(v:PrV)(P:Nat->Prop)(w:World)(c:Int)(s:ByteArray)(hp:PIn P w p v)(hs:s.size<=maxLen)(hq88:p.q.length * 88<=140737488351232) :
  Calls prog 131 #[.agg (prC p v),.int .i64 c,.string s] w (j2x P w (z3E p c (Cd.bs s))):=by
 have hD:z3E p c (Cd.bs s)=if z0B p=true then if z8k p c=true then if Cd.z7G (Cd.bs s)=0 then if (z3H (Cd.bs s)).k=1 then (p,3) else ({ p with q:=p.q ++ [(c,z3H (Cd.bs s))] },0) else (p,Cd.z7G (Cd.bs s)) else (p,4) else (p,2):=by unfold z3E;rfl
 have hpk:z3H (Cd.bs s)=⟨(Cd.z2o (Cd.bs s)).1,(Cd.z2o (Cd.bs s)).2.1,(Cd.z2o (Cd.bs s)).2.2.1,(Cd.z2o (Cd.bs s)).2.2.2.1,(Cd.z2o (Cd.bs s)).2.2.2.2.1,(Cd.z2o (Cd.bs s)).2.2.2.2.2⟩:=by unfold z3H;rfl
 rw[hpk]at hD;have HDC:=hide (fun (wx:World)=>Cd.z8H s wx hs);have HQ88:=hide hq88;clear hs hq88;have HRD:Hid (Cd.z7G (Cd.bs s)=0->Cd.z0q (Cd.z2o (Cd.bs s)).1 (Cd.z2o (Cd.bs s)).2.1 (Cd.z2o (Cd.bs s)).2.2.1 (Cd.z2o (Cd.bs s)).2.2.2.1 (Cd.z2o (Cd.bs s)).2.2.2.2.1 (Cd.z2o (Cd.bs s)).2.2.2.2.2=0):=fun h=>(Cd.q0Q (Cd.z9y s) h).1;clear hpk;generalize z3E p c (Cd.bs s)=D at *;generalize Cd.z7G (Cd.bs s)=E at *;generalize Cd.z2o (Cd.bs s)=R at *;obtain ⟨k,i,vv,nn,S,Dn⟩:=R;dsimp only at hD HDC HRD;have HD:=hide hD;clear hD;have hone:=z1c hp;have HGD:=hide (fun (wx:World) (hb:Below w.heap.size w wx)=>z3c p v P wx (hp.over hb));have HN:=hide (fun (wx:World) (hb:Below w.heap.size w wx)=>hp.z2D hb 2);have HP:=hide hp;clear hp;generalize z0B p=G at *
 go_enter func131,ntmps131
 go_upto_region 1 with fail
 change Code.wp prog _ _ _ ((w.alloc (.cells (prC p v) 57)).alloc (.cells zeroCells57 57));have C0:CAt 57 ((w.alloc (.cells (prC p v) 57)).alloc (.cells zeroCells57 57)) w.heap.size (prC p v):=(CAt.new _ w _).alloc _;have R0:CAt 57 ((w.alloc (.cells (prC p v) 57)).alloc (.cells zeroCells57 57)) (w.heap.size+1) zeroCells57:=CAt.new2 _ w _ _;have B0:Below w.heap.size w ((w.alloc (.cells (prC p v) 57)).alloc (.cells zeroCells57 57)):=(znw w _).alloc (by simp) _
 generalize (w.alloc (.cells (prC p v) 57)).alloc (.cells zeroCells57 57)=w0 at *;have l0:=z0j C0 (z0a _ _);have H0:=hide (show _/\_/\_ from ⟨C0,R0,B0⟩);clear C0 R0 B0;have HV:Hid (∀ er,D=(p,er)->∀ (f:Func) (act:Act) (wq:World),CAt 57 wq (w.heap.size+1) zeroCells57->Below w.heap.size w wq->f.results=#[.cell 6 57,.tmp 7]->act.tmps.getD 6 undef=.pointer (some ⟨w.heap.size+1,0,none⟩)->act.tmps.getD 7 undef=.int .i64 er->act.defers=[]->bodyPost prog f (j2x P w D) Exit.ret act (wq.setCells (w.heap.size+1) 0 (prC p v).toList)):=fun er he f act wq R B h1 h2 h3 h4=>z0M h1 R z0d B p v er D he (HN.out _ B) act h2 h3 h4;cases G
 ·have HR:=hide (HD.out.trans (if_neg (by simp)))
  clear HD
  go_upto_region 2 with (go_at_call 74;refine (HGD.out _ H0.out.2.2).mono ?_;rintro e w1 ⟨rfl,hb1⟩;clear l0)
  have R1:=H0.out.2.1.over hb1;have l1:=z0j (H0.out.1.over hb1) (z0a _ _);have s1:=z0k R1 z0d (z0a p v) hone;have B1:=zbt H0.out.2.2 hb1;have HZ:=hide (show _/\_ from ⟨R1,B1⟩);clear R1 B1 hb1 hone;go_wp2;exact HV.out 2 HR.out _ _ _ HZ.out.1 HZ.out.2 results131 rfl rfl rfl
 ·have HR:=hide (HD.out.trans (if_pos rfl));clear HD
  go_upto_region 3 with (go_at_call 74;refine (HGD.out _ H0.out.2.2).mono ?_;rintro e w1 ⟨rfl,hb1⟩;clear l0)
  have C1:=H0.out.1.over hb1;have R1:=H0.out.2.1.over hb1;have B1:=zbt H0.out.2.2 hb1;have l1:=z0j C1 (z0a _ _);have s1:=z0k R1 z0d (z0a p v) hone;have HON:=hide (z5p w.heap.size p v c w1 C1);have H1:=hide (show _/\_/\_ from ⟨C1,R1,B1⟩);clear C1 R1 B1 hb1 H0 HGD;generalize z8k p c=io at *;cases io
  ·replace HR:=hide (HR.out.trans (if_neg (by simp)))
   go_wp2_with (go_at_call 103;refine HON.out.mono ?_;rintro e w' ⟨rfl,rfl⟩)
   exact HV.out 4 HR.out _ _ _ H1.out.2.1 H1.out.2.2 results131 rfl rfl rfl
  ·replace HR:=hide (HR.out.trans (if_pos rfl))
   go_upto_region 6 with (first
    | (go_at_call 103;refine HON.out.mono ?_;rintro e w' ⟨rfl,rfl⟩)
    | (go_at_call 16;refine (HDC.out _).mono ?_;rintro e w2 ⟨sa,da,cs,cd,sb,so,db,dO,rfl,hL,hRm,hb2⟩))
   have C3:=(H1.out.1.over hb2).alloc (.cells #[.int .i64 k,.int .i64 i,.int .i64 vv,.int .i64 nn,.slice sa S.length cs,.slice da Dn.length cd] 70);have R3:=(H1.out.2.1.over hb2).alloc (.cells #[.int .i64 k,.int .i64 i,.int .i64 vv,.int .i64 nn,.slice sa S.length cs,.slice da Dn.length cd] 70);have B3:=(zbt H1.out.2.2 hb2).alloc (Nat.le_trans H1.out.2.2.size hb2.size) (.cells #[.int .i64 k,.int .i64 i,.int .i64 vv,.int .i64 nn,.slice sa S.length cs,.slice da Dn.length cd] 70);have K3:=CAt.new 70 w2 #[.int .i64 k,.int .i64 i,.int .i64 vv,.int .i64 nn,.slice sa S.length cs,.slice da Dn.length cd];have hk2:w.heap.size+1<w2.heap.size:=(H1.out.2.1.over hb2).lt;clear l1 s1 hb2 hL HON HDC;generalize w2.alloc (.cells #[.int .i64 k,.int .i64 i,.int .i64 vv,.int .i64 nn,.slice sa S.length cs,.slice da Dn.length cd] 70)=w3 at *;have hk3:w2.heap.size<w3.heap.size:=K3.lt
   by_cases hE:E=0
   ·subst hE;have hgp:=j1P (HRD.out rfl);replace HR:=hide (HR.out.trans (if_pos rfl));have k0:w3.cell? ⟨w2.heap.size,0,none⟩=some (.int .i64 k):=K3.cell 0
    by_cases hk:k=1
    ·subst hk;replace HR:=hide (HR.out.trans (if_pos rfl));have l3:=z0j C3 (z0a _ _);have s3:=z0k R3 z0d (z0a p v) hone;have HZ:=hide (show _/\_ from ⟨R3,B3⟩);clear C3 R3 B3 K3 hone;go_wp2;exact HV.out 3 HR.out _ _ _ HZ.out.1 HZ.out.2 results131 rfl rfl rfl
    ·obtain ⟨eS,eD⟩:=hgp.2.2.2 hk;subst eS eD;replace HR:=hide (HR.out.trans (if_neg hk));have hkb:(k == 1)=false:=by simpa using hk
     obtain ⟨z,hzl,hzr,hzi⟩:=HP.out.q;obtain ⟨Aq,Cq,eq,-,hq0,-,-⟩:=hzr.open (z2i _ _ hzl) (by decide)
     have hroom:=(hzr.room eq).1
     have HQR:Hid (∀ wx,Below w.heap.size w wx->Rep P wx (.slice Aq p.q.length p.q.length) 7 80 (quL p.q z)):=fun wx hb=>by
      rw[eq]at hzr;exact (hzr.over hb).clip
     have HZI:=hide (show _/\_ from ⟨hzl,hzi⟩);have hnil:Aq=none->p.q.length=0:=fun h=>(hq0 h).1;have hlen:(p.q.length:Int)<4611686018427387904:=by have:=HQ88.out;omega
     have a96:w3.cell? ⟨w.heap.size,96,none⟩=some (.slice Aq p.q.length Cq):=by rw[← eq];exact C3.cell 96
     have k1:w3.cell? ⟨w2.heap.size,1,none⟩=some (.int .i64 i):=K3.cell 1;have k2:w3.cell? ⟨w2.heap.size,2,none⟩=some (.int .i64 vv):=K3.cell 2;have k3:w3.cell? ⟨w2.heap.size,3,none⟩=some (.int .i64 nn):=K3.cell 3;have k4:w3.cell? ⟨w2.heap.size,4,none⟩=some (.slice sa 0 cs):=K3.cell 4;have k5:w3.cell? ⟨w2.heap.size,5,none⟩=some (.slice da 0 cd):=K3.cell 5;have H3:=hide (show _/\_/\_ from ⟨C3,R3,B3⟩);have hgz:w.heap.size<w3.heap.size:=C3.lt;have HRM:=hide hRm;clear hzl hzr hzi hq0 C3 R3 B3 K3 hRm hgp HRD HV hone
     go_upto_region 10 with fail
     go_region_law (first
      | (refine z0C rfl ?_;go_simp;go_at_call 166;refine (q8d Aq p.q.length Cq hroom hnil hlen _).mono ?_;rintro e we ⟨rfl,rfl⟩)
      | (refine q9Y rfl rfl _ _ rfl Aq p.q.length _ 80 (quL p.q z) (akL (c,⟨k,i,vv,nn,[],[]⟩) (.slice sa 0 cs,.slice da 0 cd)) rfl rfl (HQR.out _ (by exact (H3.out.2.2.alloc H3.out.2.2.size _).drew)) HQ88.out rfl (fun j v hj=>j7T w3 (c,⟨k,i,vv,nn,[],[]⟩) (.slice sa 0 cs,.slice da 0 cd) j v hj) ?_;intro g C w9 hgq hC9 hcl9 hB9 hlt9;have C9:=((H3.out.1.alloc (.cells #[.int .i64 c,.int .i64 k,.int .i64 i,.int .i64 vv,.int .i64 nn,.slice sa 0 cs,.slice da 0 cd] 85)).over (Below.refl _ _).drew).over hB9;have z96:w9.cell? ⟨w.heap.size,96,none⟩=some v.q:=C9.cell 96;have f96:=C9.free 96;have hz9:=C9.lt;have HX:=hide (show _/\_/\_/\_/\_ from ⟨hgq,hC9,hcl9,hB9,hlt9⟩);have HC9:=hide C9;clear C9 hgq hC9 hcl9 hB9 hlt9))
     all_goals
      obtain ⟨hgq,hC9,hcl9,hB9,hlt9⟩:=HX.out;have hgg:g=w3.heap.size+1:=by rw[hgq];show (w3.alloc _).heap.size=_;simp
      have bX:Below w3.heap.size w3 (w3.alloc (.cells #[.int .i64 c,.int .i64 k,.int .i64 i,.int .i64 vv,.int .i64 nn,.slice sa 0 cs,.slice da 0 cd] 85)).drew:=(znw w3 _).drew;have bY:=zbt bX hB9;have C10:=HC9.out.set 96 (.slice (some ⟨g,0,none⟩) (p.q.length+1) C);have R10:=(H3.out.2.1.over bY).other (c:=w.heap.size) (o:=96) (by omega) (.slice (some ⟨g,0,none⟩) (p.q.length+1) C)
      have B9:=zbt H3.out.2.2 bY;have B10:=B9.setCell (p:=⟨w.heap.size,96,none⟩) (Nat.le_refl _) (.slice (some ⟨g,0,none⟩) (p.q.length+1) C)
      have N10:PIn (New P w 2) (w9.setCell ⟨w.heap.size,96,none⟩ (.slice (some ⟨g,0,none⟩) (p.q.length+1) C)) { p with q:=p.q ++ [(c,⟨k,i,vv,nn,[],[]⟩)] } { v with q:=.slice (some ⟨g,0,none⟩) (p.q.length+1) C }:=by
       have n9:=HN.out _ B10;refine ⟨n9.ws,n9.set,n9.lk,q3m.app (P:=P) (w:=w) (y:=(.slice sa 0 cs,.slice da 0 cd)) HZI.out.1 HZI.out.2 (fun b hb hp=>.inl ⟨hp,hb⟩) B10 ⟨q0A HRM.out.1.1,q0A HRM.out.2.1⟩ HQ88.out hC9 (.inr (by omega)) (by simpa [World.setCell] using hlt9) (fun j u hu=>?_)⟩
       rw[World.cell?_of_block (w:=w9) (a:=⟨g,j,none⟩) (Below.heap_setCell w9 ⟨w.heap.size,96,none⟩ _ g (by show g≠w.heap.size;omega))]
       exact hcl9 j u hu
      have one10:=z1c N10;change (prC p { v with q:=.slice (some ⟨g,0,none⟩) (p.q.length+1) C }).all _=true at one10
      have l10:=z0j C10 (by simp[z0a])
      rw[j8Z]at l10;have s10:=z0k R10 z0d (z0a p { v with q:=.slice (some ⟨g,0,none⟩) (p.q.length+1) C }) one10
      have HZ:=hide (show _/\_/\_ from ⟨R10,B10,N10⟩);clear C10 R10 B10 B9 N10 bX bY hcl9 hB9 hlt9 hC9 hgg hgq HX HC9 H3 HQR HZI z96 f96 hz9;generalize w9.setCell ⟨w.heap.size,96,none⟩ (.slice (some ⟨g,0,none⟩) (p.q.length+1) C)=w10 at *;simp only[Exit.then];apply_assumption;go_wp2;exact z0M results131 HZ.out.1 z0d HZ.out.2.1 { p with q:=p.q ++ [(c,⟨k,i,vv,nn,[],[]⟩)] } _ 0 D HR.out HZ.out.2.2 _ rfl rfl rfl
   ·replace HR:=hide (HR.out.trans (if_neg hE));have l3:=z0j C3 (z0a _ _);have s3:=z0k R3 z0d (z0a p v) hone;have heb:(E != 0)=true:=by simpa using hE
    have HZ:=hide (show _/\_ from ⟨R3,B3⟩);clear C3 R3 B3 K3 hone;go_wp2;exact HV.out E HR.out _ _ _ HZ.out.1 HZ.out.2 results131 rfl rfl rfl
end Pv
end Go.Proofs.YtmopekkhmhhcaaaGreat
