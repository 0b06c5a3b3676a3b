/- Parts of the proof. -/
import Derived.Test.YtmopekkhmhhcaaaGreatFL
import Derived.Test.YtmopekkhmhhcaaaGreatFK16
set_option maxRecDepth 100000
set_option maxHeartbeats 16000000
namespace Go.Proofs.YtmopekkhmhhcaaaGreat
open Go.Proofs.Tryz
namespace Pv
open Go.RowKit
theorem q9g(ao:Option Addr)(n c:Nat)(hn:n<=c)(h0:ao=none->n=0)(hc:(n:Int)<4611686018427387904)(w:World):Calls prog 166 #[.slice ao n c] w fun e w'=>e=.returned (.slice ao n n)/\w=w':=by
 have h1:(n:Int)<=(c:Int):=by omega
 have h2:(0:Int)<=(n:Int):=by omega
 go_enter func166,ntmps166
 cases ao
 ·obtain rfl:=h0 rfl;go_wp2;go_ret;exact⟨rfl,rfl⟩
 ·clear h0;go_wp2;go_ret;exact⟨rfl,rfl⟩
theorem j2N{P:Nat->Prop}{ops:Array Oper}{o:Oper}{a:Act}{w:World}{K:Act->World->Prop}{Q:Exit->Act->World->Prop}{E:Prop}(hg:o.guard=none)(hty:o.type=55)(p q:Operand)
  (hop:o.op=Op.call { callee:=Callee.builtin Builtin.append,args:=#[p,q],argTypes:=#[55,55] }) (A:Option Addr) (n y bt:Nat) (cs news:List Value) (hs:a.eval p=.slice A n n) (hx:a.eval q=.slice (some ⟨y,0,none⟩) 1 1)
  (hr:Rep P w (.slice A n n) 7 bt cs) (hb:n * 88<=140737488351232) (hl:news.length=7) (hy:∀ j v,news[j]?=some v->w.cell? ⟨y,j,none⟩=some v)
  (hK:∀ g C w',g=w.heap.size->n+1<=C->(∀ j u,(cs ++ news)[j]?=some u->w'.cell? ⟨g,j,none⟩=some u)->Below w.heap.size w w'->g<w'.heap.size->K (a.put o.dst (.slice (some ⟨g,0,none⟩) (n+1) C)) w') :
  if Region.wanted o (yielded ops a.tmps)=true then Oper.wp prog o a w K Q else E:=by
 obtain⟨i0,hi,hz0,hz1,hz2⟩:=info_parts q9b;have hw:Region.wanted o (yielded ops a.tmps)=true:=by simp[Region.wanted,hg]
 rw[if_pos hw];unfold Oper.wp;obtain⟨C,w',hr,hC,hWs,hB,hlt⟩:=apR 55 85 i0 _ underlying55 hi hz0 w A n y bt cs news (by rw[hz1];exact hr) (by rw[hz2];exact hb) (by rw[hz2];omega) (by rw[hz2];omega) (by rw[hz1];exact hl) hy
 simp[execOp,hop,resolve,invoke,builtin,hs,hx,hty,hr,Result.andThen]
 exact hK _ _ _ rfl hC hWs hB hlt
theorem q4q.app{P P':Nat->Prop}{w w':World}{q:List (Int×Pkt)}{z:List (Value×Value)}{x:Int×Pkt}{y:Value×Value}(hl:z.length=q.length)(hz:∀ (i:Nat) (x:Int×Pkt) (y:Value×Value),q[i]?=some x->z[i]?=some y->Rep P w y.1 2 16 (pwC x.2.S)/\Rep P w y.2 1 8 (inC x.2.D))(hP:∀ b,b<w.heap.size->P b->P' b)(hb:Below w.heap.size w w')(hy:Rep P' w' y.1 2 16 (pwC x.2.S)/\Rep P' w' y.2 1 8 (inC x.2.D))(hb88:q.length * 88<=140737488351232){g C:Nat}(hC:q.length+1<=C)(hg:P' g)(hlt:g<w'.heap.size)(hc:∀ j u,(quL q z ++ akL x y)[j]?=some u->w'.cell? ⟨g,j,none⟩=some u):q4q P' w' (.slice (some ⟨g,0,none⟩) (q.length+1) C) (q ++ [x]):=by
 refine⟨z ++ [y],by simp[hl],⟨_,q.length+1,C,rfl,?_,by omega,⟨fun h=>(by cases h),hC⟩,fun _=>⟨g,0,rfl,hg,hlt,fun j u hu=>?_⟩⟩,fun i a b ha hb'=>?_⟩
 ·rw[z2x _ _ (by simp[hl])];simp
 ·rw[q2C q z x y hl]at hu;rw[Nat.zero_add];exact hc j u hu
 ·by_cases hi:i<q.length
  ·rw[List.getElem?_append_left hi]at ha;rw[List.getElem?_append_left (by omega)]at hb'
   have:=hz i a b ha hb';exact⟨(this.1.mono hP).over hb,(this.2.mono hP).over hb⟩
  ·rw[List.getElem?_append_right (by omega)]at ha hb'
   have e1:=(List.getElem?_eq_some_iff.1 ha).1;have e2:i - q.length=0:=by simpa using e1
   rw[e2]at ha;rw[hl,e2]at hb';cases ha;cases hb';exact hy
theorem j8Q(w:World)(x:Int×Pkt)(y:Value×Value)(j:Nat)(v:Value)(hj:(akL x y)[j]?=some v):(w.alloc (.cells #[.int .i64 x.1,.int .i64 x.2.k,.int .i64 x.2.i,.int .i64 x.2.v,.int .i64 x.2.n,y.1,y.2] 85)).drew.cell? ⟨w.heap.size,j,none⟩=some v:=by
 have h:=((CAt.new 85 w #[.int .i64 x.1,.int .i64 x.2.k,.int .i64 x.2.i,.int .i64 x.2.v,.int .i64 x.2.n,y.1,y.2]).over (Below.refl _ _).drew).cell j;rw[h]
 simpa [akL] using hj
attribute [local go_sem ↓] z1K z0K z0q z1y
theorem q8A(p:Pr)(v:PrV)(P:Nat->Prop)(w:World)(c:Int)(s:ByteArray)(hp:PIn P w p v)(hs:s.size<=maxLen)(hq88:p.q.length * 88<=140737488351232) :
  Calls prog 131 #[.agg (prC p v),.int .i64 c,.string s] w (j4r P w (z3L p c (Cd.bs s))):=by
 have hD:z3L p c (Cd.bs s)=if z0x p=true then if z9A p c=true then if Cd.z6l (Cd.bs s)=0 then if (z2i (Cd.bs s)).k=1 then (p,3) else ({ p with q:=p.q ++ [(c,z2i (Cd.bs s))] },0) else (p,Cd.z6l (Cd.bs s)) else (p,4) else (p,2):=by unfold z3L;rfl
 have hpk:z2i (Cd.bs s)=⟨(Cd.z2q (Cd.bs s)).1,(Cd.z2q (Cd.bs s)).2.1,(Cd.z2q (Cd.bs s)).2.2.1,(Cd.z2q (Cd.bs s)).2.2.2.1,(Cd.z2q (Cd.bs s)).2.2.2.2.1,(Cd.z2q (Cd.bs s)).2.2.2.2.2⟩:=by unfold z2i;rfl
 rw[hpk]at hD;have HDC:=hide (fun (wx:World)=>Cd.z6H s wx hs);have HQ88:=hide hq88;clear hs hq88;have HRD:Hid (Cd.z6l (Cd.bs s)=0->Cd.z0m (Cd.z2q (Cd.bs s)).1 (Cd.z2q (Cd.bs s)).2.1 (Cd.z2q (Cd.bs s)).2.2.1 (Cd.z2q (Cd.bs s)).2.2.2.1 (Cd.z2q (Cd.bs s)).2.2.2.2.1 (Cd.z2q (Cd.bs s)).2.2.2.2.2=0):=fun h=>(Cd.q0N (Cd.z9P s) h).1;clear hpk;generalize z3L p c (Cd.bs s)=D at *;generalize Cd.z6l (Cd.bs s)=E at *;generalize Cd.z2q (Cd.bs s)=R at *;obtain⟨k,i,vv,nn,S,Dn⟩:=R;dsimp only at hD HDC HRD;have HD:=hide hD;clear hD;have hone:=z1c hp;have HGD:=hide (fun (wx:World) (hb:Below w.heap.size w wx)=>z3m p v P wx (hp.over hb));have HN:=hide (fun (wx:World) (hb:Below w.heap.size w wx)=>hp.z2T hb 2);have HP:=hide hp;clear hp;generalize z0x p=G at *
 go_enter func131,ntmps131
 go_upto_region 1 with fail
 change Code.wp prog _ _ _ ((w.alloc (.cells (prC p v) 57)).alloc (.cells zeroCells57 57));have C0:CAt 57 ((w.alloc (.cells (prC p v) 57)).alloc (.cells zeroCells57 57)) w.heap.size (prC p v):=(CAt.new _ w _).alloc _;have R0:CAt 57 ((w.alloc (.cells (prC p v) 57)).alloc (.cells zeroCells57 57)) (w.heap.size+1) zeroCells57:=CAt.new2 _ w _ _;have B0:Below w.heap.size w ((w.alloc (.cells (prC p v) 57)).alloc (.cells zeroCells57 57)):=(znw w _).alloc (by simp) _
 generalize (w.alloc (.cells (prC p v) 57)).alloc (.cells zeroCells57 57)=w0 at *;have l0:=z0k C0 (z0a _ _);have H0:=hide (show _/\_/\_ from⟨C0,R0,B0⟩);clear C0 R0 B0;have HV:Hid (∀ er,D=(p,er)->∀ (f:Func) (act:Act) (wq:World),CAt 57 wq (w.heap.size+1) zeroCells57->Below w.heap.size w wq->f.results=#[.cell 6 57,.tmp 7]->act.tmps.getD 6 undef=.pointer (some ⟨w.heap.size+1,0,none⟩)->act.tmps.getD 7 undef=.int .i64 er->act.defers=[]->bodyPost prog f (j4r P w D) Exit.ret act (wq.setCells (w.heap.size+1) 0 (prC p v).toList)):=fun er he f act wq R B h1 h2 h3 h4=>z0P h1 R z0e B p v er D he (HN.out _ B) act h2 h3 h4;cases G
 ·have HR:=hide (HD.out.trans (if_neg (by simp)))
  clear HD
  go_upto_region 2 with (go_at_call 74;refine (HGD.out _ H0.out.2.2).mono ?_;rintro e w1⟨rfl,hb1⟩;clear l0)
  have R1:=H0.out.2.1.over hb1;have l1:=z0k (H0.out.1.over hb1) (z0a _ _);have s1:=z0l R1 z0e (z0a p v) hone;have B1:=zbt H0.out.2.2 hb1;have HZ:=hide (show _/\_ from⟨R1,B1⟩);clear R1 B1 hb1 hone;go_wp2;exact HV.out 2 HR.out _ _ _ HZ.out.1 HZ.out.2 results131 rfl rfl rfl
 ·have HR:=hide (HD.out.trans (if_pos rfl));clear HD
  go_upto_region 3 with (go_at_call 74;refine (HGD.out _ H0.out.2.2).mono ?_;rintro e w1⟨rfl,hb1⟩;clear l0)
  have C1:=H0.out.1.over hb1;have R1:=H0.out.2.1.over hb1;have B1:=zbt H0.out.2.2 hb1;have l1:=z0k C1 (z0a _ _);have s1:=z0l R1 z0e (z0a p v) hone;have HON:=hide (z6d w.heap.size p v c w1 C1);have H1:=hide (show _/\_/\_ from⟨C1,R1,B1⟩);clear C1 R1 B1 hb1 H0 HGD;generalize z9A p c=io at *;cases io
  ·replace HR:=hide (HR.out.trans (if_neg (by simp)))
   go_wp2_with (go_at_call 103;refine HON.out.mono ?_;rintro e w'⟨rfl,rfl⟩)
   exact HV.out 4 HR.out _ _ _ H1.out.2.1 H1.out.2.2 results131 rfl rfl rfl
  ·replace HR:=hide (HR.out.trans (if_pos rfl))
   go_upto_region 6 with (first
    | (go_at_call 103;refine HON.out.mono ?_;rintro e w'⟨rfl,rfl⟩)
    | (go_at_call 16;refine (HDC.out _).mono ?_;rintro e w2⟨sa,da,cs,cd,sb,so,db,dO,rfl,hL,hRm,hb2⟩))
   have C3:=(H1.out.1.over hb2).alloc (.cells #[.int .i64 k,.int .i64 i,.int .i64 vv,.int .i64 nn,.slice sa S.length cs,.slice da Dn.length cd] 70);have R3:=(H1.out.2.1.over hb2).alloc (.cells #[.int .i64 k,.int .i64 i,.int .i64 vv,.int .i64 nn,.slice sa S.length cs,.slice da Dn.length cd] 70);have B3:=(zbt H1.out.2.2 hb2).alloc (Nat.le_trans H1.out.2.2.size hb2.size) (.cells #[.int .i64 k,.int .i64 i,.int .i64 vv,.int .i64 nn,.slice sa S.length cs,.slice da Dn.length cd] 70);have K3:=CAt.new 70 w2 #[.int .i64 k,.int .i64 i,.int .i64 vv,.int .i64 nn,.slice sa S.length cs,.slice da Dn.length cd];have hk2:w.heap.size+1<w2.heap.size:=(H1.out.2.1.over hb2).lt;clear l1 s1 hb2 hL HON HDC;generalize w2.alloc (.cells #[.int .i64 k,.int .i64 i,.int .i64 vv,.int .i64 nn,.slice sa S.length cs,.slice da Dn.length cd] 70)=w3 at *;have hk3:w2.heap.size<w3.heap.size:=K3.lt
   by_cases hE:E=0
   ·subst hE;have hgp:=j2i (HRD.out rfl);replace HR:=hide (HR.out.trans (if_pos rfl));have k0:w3.cell? ⟨w2.heap.size,0,none⟩=some (.int .i64 k):=K3.cell 0
    by_cases hk:k=1
    ·subst hk;replace HR:=hide (HR.out.trans (if_pos rfl));have l3:=z0k C3 (z0a _ _);have s3:=z0l R3 z0e (z0a p v) hone;have HZ:=hide (show _/\_ from⟨R3,B3⟩);clear C3 R3 B3 K3 hone;go_wp2;exact HV.out 3 HR.out _ _ _ HZ.out.1 HZ.out.2 results131 rfl rfl rfl
    ·obtain⟨eS,eD⟩:=hgp.2.2.2 hk;subst eS eD;replace HR:=hide (HR.out.trans (if_neg hk));have hkb:(k == 1)=false:=by simpa using hk
     obtain⟨z,hzl,hzr,hzi⟩:=HP.out.q;obtain⟨Aq,Cq,eq,-,hq0,-,-⟩:=hzr.open (z2x _ _ hzl) (by decide)
     have hroom:=(hzr.room eq).1
     have HQR:Hid (∀ wx,Below w.heap.size w wx->Rep P wx (.slice Aq p.q.length p.q.length) 7 80 (quL p.q z)):=fun wx hb=>by
      rw[eq]at hzr;exact (hzr.over hb).clip
     have HZI:=hide (show _/\_ from⟨hzl,hzi⟩);have hnil:Aq=none->p.q.length=0:=fun h=>(hq0 h).1;have hlen:(p.q.length:Int)<4611686018427387904:=by have:=HQ88.out;omega
     have a96:w3.cell? ⟨w.heap.size,96,none⟩=some (.slice Aq p.q.length Cq):=by rw[← eq];exact C3.cell 96
     have k1:w3.cell? ⟨w2.heap.size,1,none⟩=some (.int .i64 i):=K3.cell 1;have k2:w3.cell? ⟨w2.heap.size,2,none⟩=some (.int .i64 vv):=K3.cell 2;have k3:w3.cell? ⟨w2.heap.size,3,none⟩=some (.int .i64 nn):=K3.cell 3;have k4:w3.cell? ⟨w2.heap.size,4,none⟩=some (.slice sa 0 cs):=K3.cell 4;have k5:w3.cell? ⟨w2.heap.size,5,none⟩=some (.slice da 0 cd):=K3.cell 5;have H3:=hide (show _/\_/\_ from⟨C3,R3,B3⟩);have hgz:w.heap.size<w3.heap.size:=C3.lt;have HRM:=hide hRm;clear hzl hzr hzi hq0 C3 R3 B3 K3 hRm hgp HRD HV hone
     go_upto_region 10 with fail
     go_region_law (first
      | (refine z0E rfl ?_;go_simp;go_at_call 166;refine (q9g Aq p.q.length Cq hroom hnil hlen _).mono ?_;rintro e we⟨rfl,rfl⟩)
      | (refine j2N rfl rfl _ _ rfl Aq p.q.length _ 80 (quL p.q z) (akL (c,⟨k,i,vv,nn,[],[]⟩) (.slice sa 0 cs,.slice da 0 cd)) rfl rfl (HQR.out _ (by exact (H3.out.2.2.alloc H3.out.2.2.size _).drew)) HQ88.out rfl (fun j v hj=>j8Q w3 (c,⟨k,i,vv,nn,[],[]⟩) (.slice sa 0 cs,.slice da 0 cd) j v hj) ?_;intro g C w9 hgq hC9 hcl9 hB9 hlt9;have C9:=((H3.out.1.alloc (.cells #[.int .i64 c,.int .i64 k,.int .i64 i,.int .i64 vv,.int .i64 nn,.slice sa 0 cs,.slice da 0 cd] 85)).over (Below.refl _ _).drew).over hB9;have z96:w9.cell? ⟨w.heap.size,96,none⟩=some v.q:=C9.cell 96;have f96:=C9.free 96;have hz9:=C9.lt;have HX:=hide (show _/\_/\_/\_/\_ from⟨hgq,hC9,hcl9,hB9,hlt9⟩);have HC9:=hide C9;clear C9 hgq hC9 hcl9 hB9 hlt9))
     all_goals
      obtain⟨hgq,hC9,hcl9,hB9,hlt9⟩:=HX.out;have hgg:g=w3.heap.size+1:=by rw[hgq];show (w3.alloc _).heap.size=_;simp
      have bX:Below w3.heap.size w3 (w3.alloc (.cells #[.int .i64 c,.int .i64 k,.int .i64 i,.int .i64 vv,.int .i64 nn,.slice sa 0 cs,.slice da 0 cd] 85)).drew:=(znw w3 _).drew;have bY:=zbt bX hB9;have C10:=HC9.out.set 96 (.slice (some ⟨g,0,none⟩) (p.q.length+1) C);have R10:=(H3.out.2.1.over bY).other (c:=w.heap.size) (o:=96) (by omega) (.slice (some ⟨g,0,none⟩) (p.q.length+1) C)
      have B9:=zbt H3.out.2.2 bY;have B10:=B9.setCell (p:=⟨w.heap.size,96,none⟩) (Nat.le_refl _) (.slice (some ⟨g,0,none⟩) (p.q.length+1) C)
      have N10:PIn (New P w 2) (w9.setCell ⟨w.heap.size,96,none⟩ (.slice (some ⟨g,0,none⟩) (p.q.length+1) C)) { p with q:=p.q ++ [(c,⟨k,i,vv,nn,[],[]⟩)] } { v with q:=.slice (some ⟨g,0,none⟩) (p.q.length+1) C }:=by
       have n9:=HN.out _ B10;refine⟨n9.ws,n9.set,n9.lk,q4q.app (P:=P) (w:=w) (y:=(.slice sa 0 cs,.slice da 0 cd)) HZI.out.1 HZI.out.2 (fun b hb hp=>.inl ⟨hp,hb⟩) B10 ⟨q0J HRM.out.1.1,q0J HRM.out.2.1⟩ HQ88.out hC9 (.inr (by omega)) (by simpa [World.setCell] using hlt9) (fun j u hu=>?_)⟩
       rw[World.cell?_of_block (w:=w9) (a:=⟨g,j,none⟩) (Below.heap_setCell w9 ⟨w.heap.size,96,none⟩ _ g (by show g≠w.heap.size;omega))]
       exact hcl9 j u hu
      have one10:=z1c N10;change (prC p { v with q:=.slice (some ⟨g,0,none⟩) (p.q.length+1) C }).all _=true at one10
      have l10:=z0k C10 (by simp[z0a])
      rw[y0T]at l10;have s10:=z0l R10 z0e (z0a p { v with q:=.slice (some ⟨g,0,none⟩) (p.q.length+1) C }) one10
      have HZ:=hide (show _/\_/\_ from⟨R10,B10,N10⟩);clear C10 R10 B10 B9 N10 bX bY hcl9 hB9 hlt9 hC9 hgg hgq HX HC9 H3 HQR HZI z96 f96 hz9;generalize w9.setCell ⟨w.heap.size,96,none⟩ (.slice (some ⟨g,0,none⟩) (p.q.length+1) C)=w10 at *;simp only[Exit.then];apply_assumption;go_wp2;exact z0P results131 HZ.out.1 z0e HZ.out.2.1 { p with q:=p.q ++ [(c,⟨k,i,vv,nn,[],[]⟩)] } _ 0 D HR.out HZ.out.2.2 _ rfl rfl rfl
   ·replace HR:=hide (HR.out.trans (if_neg hE));have l3:=z0k C3 (z0a _ _);have s3:=z0l R3 z0e (z0a p v) hone;have heb:(E != 0)=true:=by simpa using hE
    have HZ:=hide (show _/\_ from⟨R3,B3⟩);clear C3 R3 B3 K3 hone;go_wp2;exact HV.out E HR.out _ _ _ HZ.out.1 HZ.out.2 results131 rfl rfl rfl
end Pv
namespace Pv
open Go.RowKit
def y0q(P:Nat->Prop)(w:World)(r:Pr×List Int×Int)(e:Ending)(w':World):Prop:=∃ v' u,e=.returned (.tuple #[.agg (prC r.1 v'),u,.int .i64 r.2.2])/\PIn (New P w 2) w' r.1 v'/\Rep (New P w 2) w' u 1 8 (inC r.2.1)/\Below w.heap.size w w'
theorem z9N{fn:Func}{p q u:Tmp}(h:fn.results=#[.cell p 57,.tmp q,.tmp u])(tmps:Array Value)(w:World)(g:Nat)(cs:Array Value)(v v2:Value)
  (hp:tmps.getD p undef=.pointer (some ⟨g,0,none⟩)) (hq:tmps.getD q undef=v) (hu:tmps.getD u undef=v2) (hg:CAt 57 w g cs) (hsz:cs.size=97) :
  (results fn tmps).run prog w=.ok (.tuple #[.agg cs,v,v2]) w:=by
 have hp':tmps[p]?.getD undef=.pointer (some ⟨g,0,none⟩):=by simpa using hp
 have hq':tmps[q]?.getD undef=v:=by simpa using hq
 have hu':tmps[u]?.getD undef=v2:=by simpa using hu
 simp[results,h,hp',hq',hu',asAddr,run_loadVar_row w g 57 57 cs (0,0) _ hg underlying57 rfl (by rw[z3l,hsz])]
theorem q1s{f:Func}{t q y:Tmp}(hres:f.results=#[.cell t 57,.tmp q,.tmp y]){P:Nat->Prop}{w wq:World}{zs:Array Value}(R:CAt 57 wq (w.heap.size+1) zs)(hz:zs.size=97)(H:Below w.heap.size w wq)(p':Pr)(v':PrV)(u:Value)(l:List Int)(er:Int)(r:Pr×List Int×Int)(hr:r=(p',l,er))(hp:PIn (New P w 2) wq p' v')(hu:Rep (New P w 2) wq u 1 8 (inC l))(act:Act)
  (h8:act.tmps.getD t undef=.pointer (some ⟨w.heap.size+1,0,none⟩)) (h9:act.tmps.getD q undef=u) (h10:act.tmps.getD y undef=.int .i64 er) (hd:act.defers=[]) :
  bodyPost prog f (y0q P w r) Exit.ret act (wq.setCells (w.heap.size+1) 0 (prC p' v').toList):=by
 subst hr;have R3:=R.z0H (ds:=prC p' v') (by rw[hz];rfl)
 exact bodyPost_ret (v:=.tuple #[.agg (prC p' v'),u,.int .i64 er]) (z9N hres _ _ _ _ _ _ h8 h9 h10 R3 rfl) hd ⟨v',u,rfl,hp.sets (z3P (by omega)) _ _,hu.sets (z3P (by omega)) _ _,z0b (Nat.le_succ _) _ _ _ H⟩
def Turns(w:World)(g:Nat)(P:Nat->Prop)(p':Pr)(e:Ending)(w':World):Prop:=∃ v',e=.returned (.tuple #[])/\CAt 57 w' g (prC p' v')/\PIn (New P w 0) w' p' v'/\Alt g w w'
theorem z0N{P:Nat->Prop}{w:World}{g:Nat}(hP:¬ P g)(hg:g<w.heap.size):¬ New P w 0 g:=fun h=>by
 rcases h with⟨h,_⟩ | h
 ·exact hP h
 ·omega
theorem j5X(p:Pr)(v:PrV)(x:Int):(prC p v).setIfInBounds 0 (.int .i64 x)=prC { p with h:=x } v:=rfl
theorem j7l(p:Pr)(v:PrV)(x:Int):(prC p v).setIfInBounds 1 (.int .i64 x)=prC { p with t:=x } v:=rfl
theorem j8j(p:Pr)(v:PrV)(x:Int):(prC p v).setIfInBounds 94 (.int .i64 x)=prC { p with ml:=x } v:=rfl
theorem j8k(p:Pr)(v:PrV)(x:Int):(prC p v).setIfInBounds 95 (.int .i64 x)=prC { p with mn:=x } v:=rfl
def Nx(P:Nat->Prop)(w:World)(g b:Nat):Prop:=(P b/\b<w.heap.size)∨(w.heap.size+2<=b/\b≠g)
theorem q7A{P:Nat->Prop}{w:World}{g:Nat}(hg:w.heap.size<=g):¬ Nx P w g g:=fun h=>by
 rcases h with⟨_,h⟩ | ⟨_,h⟩
 ·omega
 ·exact h rfl
theorem j7T{P:Nat->Prop}{w wl:World}{g b:Nat}(hw:w.heap.size+2<=wl.heap.size)(hg:g<wl.heap.size)(h:New (Nx P w g) wl 0 b):Nx P w g b:=by
 rcases h with⟨h,_⟩ | h
 ·exact h
 ·exact .inr ⟨by omega,by omega⟩
theorem j4F{P:Nat->Prop}{w:World}{g b:Nat}(h:Nx P w g b):New P w 2 b:=by
 rcases h with h | h
 ·exact .inl h
 ·exact .inr h.1
theorem PIn.nx{P:Nat->Prop}{w w':World}{p:Pr}{v:PrV}(h:PIn P w p v)(hb:Below w.heap.size w w')(g:Nat):PIn (Nx P w g) w' p v:=(h.mono (P':=fun b=>Nx P w g b/\b<w.heap.size) fun _ hl hp=>⟨.inl ⟨hp,hl⟩,hl⟩).over hb |>.mono fun _ _ h=>h.1
theorem j3j(l:List (Int×Int)):Mt.I64 (Df.z8x l):=by
 have key:∀ (l:List (Int×Int)) (a:Int),Mt.I64 a->Mt.I64 (l.foldl (fun s x=>(s+x.2+9223372036854775808) % 18446744073709551616 - 9223372036854775808) a):=by
  intro l
  induction l with
  | nil=>exact fun a h=>h
  | cons x l ih=>exact fun a _=>ih _ (by show Mt.I64 ((a+x.2+9223372036854775808) % 18446744073709551616 - 9223372036854775808);unfold Mt.I64;omega)
 exact key l 0 (by unfold Mt.I64;omega)
def j4h(a v:Value):Sem Unit:=Instr.storeAt 44 a v
theorem q8l(a v:Value):Instr.storeAt 44 a v=j4h a v:=rfl
theorem q9K{w:World}{b o:Nat}{u v:Value}(hv:∃ A n C,v=.slice A n C)(hc:w.cell? ⟨b,o,none⟩=some u)(hf:w.frozen? ⟨b,o,none⟩=false):(j4h (.pointer (some ⟨b,o,none⟩)) v).run prog w=.ok () (w.setCell ⟨b,o,none⟩ v):=by
 obtain⟨A,n,C,rfl⟩:=hv;change (Instr.storeAt 44 _ _).run prog w=_;go_simp
attribute [local go_sem ↓] q8l
attribute [local go_sem ↓] z1K z0K z0q z1y
theorem j6C(p:Pr)(v:PrV)(P:Nat->Prop)(w:World)(now:Int)(hp:PIn P w p v)(q0 q1 q2:Pr)
  (HQ:z0x p=true->isT now=true->p.t<=now->∀ (g:Nat) (v:PrV) (wx:World) (P':Nat->Prop),CAt 57 wx g (prC (z0j p now) v)->PIn P' wx (z0j p now) v->¬ P' g->Calls prog 83 #[.pointer (some ⟨g,0,none⟩)] wx (Turns wx g P' (z0n (z0j p now))))
  (hg2:z0x p=true->z0i (z0n (z0j p now)).s=true)
  (HT:z0x p=true->isT now=true->p.t<=now->∀ (c:Nat),c<2->∀ (g:Nat) (v:PrV) (wx:World) (P':Nat->Prop),CAt 57 wx g (prC (if c=0 then q0 else q1) v)->PIn P' wx (if c=0 then q0 else q1) v->¬ P' g->Calls prog 86 #[.pointer (some ⟨g,0,none⟩),.pointer (some ⟨g,66+c * 14,none⟩)] wx (Turns wx g P' (if c=0 then q1 else q2)))
  (hq0:q0=z2J (z0n (z0j p now)) now) (hq1:q1=z1g q0 0) (hq2:q2=z1g q1 1) :
  Calls prog 66 #[.agg (prC p v),.int .i64 now] w (y0q P w (endP p now)):=by
 have hD:endP p now=if z0x p=true/\isT now=true/\p.t<=now then (q2,z2m now (z0n (z0j p now)).s.W,0) else (p,[],2):=by unfold endP;rw[hq2,hq1,hq0]
 generalize endP p now=D at *;have HD:=hide hD;clear hD hq1 hq2;have hone:=z1c hp;have HGD:=hide (fun (wx:World) (hb:Below w.heap.size w wx)=>z3m p v P wx (hp.over hb));have HN:=hide (fun (wx:World) (hb:Below w.heap.size w wx)=>hp.z2T hb 2);have HP:=hide hp;have HHQ:=hide HQ;have HHT:=hide HT;have Hg2:=hide hg2;have Hq0:=hide hq0
 have HGH:Hid (z0x p=true->0<=p.h/\p.h<=1099511627775):=fun h=>by
  unfold z0x at h;simp only[Bool.and_eq_true,decide_eq_true_eq]at h;exact⟨h.1.1.1.1.1.1.2,h.1.1.1.1.1.2⟩
 clear hp HQ HT hg2 hq0;generalize z0x p=G at *
 go_enter func66,ntmps66
 go_upto_region 1 with fail
 change Code.wp prog _ _ _ ((w.alloc (.cells (prC p v) 57)).alloc (.cells zeroCells57 57));have C0:CAt 57 ((w.alloc (.cells (prC p v) 57)).alloc (.cells zeroCells57 57)) w.heap.size (prC p v):=(CAt.new _ w _).alloc _;have R0:CAt 57 ((w.alloc (.cells (prC p v) 57)).alloc (.cells zeroCells57 57)) (w.heap.size+1) zeroCells57:=CAt.new2 _ w _ _;have B0:Below w.heap.size w ((w.alloc (.cells (prC p v) 57)).alloc (.cells zeroCells57 57)):=(znw w _).alloc (by simp) _
 generalize (w.alloc (.cells (prC p v) 57)).alloc (.cells zeroCells57 57)=w0 at *;have l0:=z0k C0 (z0a _ _);have H0:=hide (show _/\_/\_ from⟨C0,R0,B0⟩);clear C0 R0 B0
 by_cases hok:G=true/\isT now=true/\p.t<=now
 ·obtain⟨rfl,hti,htn⟩:=hok;replace HD:=hide (HD.out.trans (if_pos ⟨rfl,hti,htn⟩));obtain⟨hh0,hh1⟩:=HGH.out rfl;replace HHQ:=hide (HHQ.out rfl hti htn);replace HHT:=hide (HHT.out rfl hti htn);replace Hg2:=hide (Hg2.out rfl);clear HGH
  go_upto_region 3 with (first
   | (go_at_call 74;refine (HGD.out _ H0.out.2.2).mono ?_;rintro e w1⟨rfl,hb1⟩;clear l0;have a1:w1.cell? ⟨w.heap.size,1,none⟩=some (.int .i64 p.t):=(H0.out.1.over hb1).cell 1)
   | (go_at_call 76;refine (z3V _ _).mono ?_;rintro e w'⟨rfl,rfl⟩))
  have C1:=H0.out.1.over hb1;have R1:=H0.out.2.1.over hb1;have B1:=zbt H0.out.2.2 hb1;have l1:=z0k C1 (z0a _ _);have s1:=z0l (CAt.new 57 w1 zeroCells57) z0e (z0a p v) hone;have H1:=hide (show _/\_/\_ from⟨C1,R1,B1⟩);have hlt1:=R1.lt;clear C1 R1 B1 hb1 H0 HGD a1
  go_upto_region 4 with fail
  have bS:Below w1.heap.size w1 ((w1.alloc (.cells zeroCells57 57)).setCells w1.heap.size 0 (prC p v).toList):=z0b (Nat.le_refl _) _ _ _ (znw w1 _);have N2:CAt 57 ((w1.alloc (.cells zeroCells57 57)).setCells w1.heap.size 0 (prC p v).toList) w1.heap.size (prC p v):=(CAt.new 57 w1 zeroCells57).z0H (by rw[z0e];rfl)
  have C2:=H1.out.1.over bS;have R2:=H1.out.2.1.over bS;have B2:=zbt H1.out.2.2 bS;clear bS l1 s1;generalize (w1.alloc (.cells zeroCells57 57)).setCells w1.heap.size 0 (prC p v).toList=w2 at *;generalize w1.heap.size=gn at *;have n0:w2.cell? ⟨gn,0,none⟩=some (.int .i64 p.h):=N2.cell 0;have n1:w2.cell? ⟨gn,1,none⟩=some (.int .i64 p.t):=N2.cell 1;have nf0:=N2.free 0;have nf1:=N2.free 1;have N4:=(N2.set 0 (.int .i64 (p.h+1))).set 1 (.int .i64 now);rw[j5X,j7l]at N4;have C4:=(C2.other (c:=gn) (o:=0) (by omega) (.int .i64 (p.h+1))).other (c:=gn) (o:=1) (by omega) (.int .i64 now)
  have R4:=(R2.other (c:=gn) (o:=0) (by omega) (.int .i64 (p.h+1))).other (c:=gn) (o:=1) (by omega) (.int .i64 now)
  have B4:=(B2.setCell (p:=⟨gn,0,none⟩) (by show _<=gn;omega) (.int .i64 (p.h+1))).setCell (p:=⟨gn,1,none⟩) (by show _<=gn;omega) (.int .i64 now)
  have hltn:=N2.lt;clear C2 R2 B2 N2
  go_upto_region 6 with fail
  clear n0 n1 nf0 nf1;generalize (w2.setCell ⟨gn,0,none⟩ (.int .i64 (p.h+1))).setCell ⟨gn,1,none⟩ (.int .i64 now)=w4 at *;obtain⟨⟨-,-,c65,c94,c95,-⟩,-⟩:=z3F C4;have m94:w4.cell? ⟨gn,94,none⟩=some (.int .i64 p.ml):=N4.cell 94;have m95:w4.cell? ⟨gn,95,none⟩=some (.int .i64 p.mn):=N4.cell 95;have f94:=N4.free 94;have f95:=N4.free 95;have hz4:=C4.lt;have hzn:=N4.lt;have HAL:=hide (fun (wx:World) (hb:Below w.heap.size w wx)=>j3Q (HP.out.set.over hb));have H4:=hide (show _/\_/\_/\_ from⟨N4,C4,R4,B4⟩);clear N4 C4 R4 B4 H1;have HIA:=hide (j3j p.set);have HTK:Hid (z0j p now={ p with h:=p.h+1,t:=now,ml:=if now<p.mn then p.ml else Mt.alw (Df.z8x p.set),mn:=if now<p.mn then p.mn else wrap64 (now+10) }):=rfl
  have HMT:=hide (fun (wx:World)=>Mt.j0v p.ml p.mn (Df.z8x p.set) now HIA.out wx);generalize Df.z8x p.set=al at *;generalize (if now<p.mn then p.ml else Mt.alw al)=ml' at *;generalize (if now<p.mn then p.mn else wrap64 (now+10))=mn' at *;apply z4l (fun w'=>∃ w6,w'=(w6.setCell ⟨gn,94,none⟩ (.int .i64 ml')).setCell ⟨gn,95,none⟩ (.int .i64 mn')/\Below w4.heap.size w4 w6)
  ·refine wp_region_noPanic ?_
   go_region_with (first
    | (go_at_call 21;refine (HAL.out _ (by exact H4.out.2.2.2.drew)).mono ?_;rintro e w5⟨rfl,hb5⟩;obtain⟨⟨-,-,d65,d94,d95,-⟩,-⟩:=z3F (H4.out.2.1.over ((Below.refl _ _).drew.trans hb5)))
    | (go_at_call 82;refine (HMT.out _).mono ?_;rintro e w6⟨rfl,hb6⟩;have N6:=(H4.out.1.over ((Below.refl _ _).drew.trans hb5)).over hb6;have n94:w6.cell? ⟨gn,94,none⟩=some (.int .i64 p.ml):=N6.cell 94;have n95:w6.cell? ⟨gn,95,none⟩=some (.int .i64 p.mn):=N6.cell 95;have nf94:=N6.free 94;have nf95:=N6.free 95;have hz6:=N6.lt;clear N6))
   all_goals
    have b46:=(Below.refl w4.heap.size w4).drew.trans hb5;exact NoPanic.normal ⟨rfl,rfl,_,rfl,zbt b46 hb6⟩
  rintro w'⟨w6,rfl,b6⟩;have N7:=((H4.out.1.over b6).set 94 (.int .i64 ml')).set 95 (.int .i64 mn');rw[j8j,j8k]at N7;have R7:=((H4.out.2.2.1.over b6).other (c:=gn) (o:=94) (by omega) (.int .i64 ml')).other (c:=gn) (o:=95) (by omega) (.int .i64 mn')
  have C7:=((H4.out.2.1.over b6).other (c:=gn) (o:=94) (by omega) (.int .i64 ml')).other (c:=gn) (o:=95) (by omega) (.int .i64 mn')
  have B7:=((zbt H4.out.2.2.2 b6).setCell (p:=⟨gn,94,none⟩) (by show _<=gn;omega) (.int .i64 ml')).setCell (p:=⟨gn,95,none⟩) (by show _<=gn;omega) (.int .i64 mn')
  have hp6:=HP.out.nx B7 gn;have hp7:PIn (Nx P w gn) _ (z0j p now) v:=⟨hp6.ws,hp6.set,hp6.lk,hp6.q⟩;clear hp6;rw[← HTK.out]at N7;clear b6 H4 c65 c94 c95 m94 m95 f94 f95 hz4 hzn HAL HIA HMT HTK;generalize (w6.setCell ⟨gn,94,none⟩ (.int .i64 ml')).setCell ⟨gn,95,none⟩ (.int .i64 mn')=w7 at *;have HQ7:=hide (HHQ.out gn v w7 (Nx P w gn) N7 hp7 (q7A (by omega)))
  have H7:=hide (show _/\_/\_ from⟨C7,R7,B7⟩);have hz7:=N7.lt;have hr7:=R7.lt;have hgs:=Hg2.out;clear N7 R7 B7 C7 hp7 HHQ Hg2;generalize z0n (z0j p now)=p2 at *;simp only[Exit.then];apply_assumption
  go_upto_region 8 with (go_at_call 83;refine HQ7.out.mono ?_;rintro e w8⟨v8,rfl,C8,P8,A8⟩)
  have R8:=A8.cat (b:=w.heap.size+1) (by omega) H7.out.2.1
  have B8:=H7.out.2.2.trans (A8.below (by omega) H7.out.2.2.size)
  have hs7:=A8.size;have P8':PIn (Nx P w gn) w8 p2 v8:=P8.mono fun b _ hb=>j7T (by omega) hz7 hb
  have m8:=z2p C8;have HPY:=hide (j9F P8'.ws now hgs);have H8:=hide (show _/\_/\_/\_ from⟨C8,R8,B8,P8'⟩);have hz8:=C8.lt;clear P8 P8' A8 C8 R8 B8 HQ7 H7;have hge:=(j3Z hgs now).good;have HST:=hide (fun (u:Value) (wx:World)=>j8Y (z6k p2.s now) u wx hge);have HLN:=hide (q3x (z6k p2.s now).V);have Hq0':Hid (q0={ p2 with s:=z6k p2.s now,set:=z8v (z6k p2.s now).V }):=Hq0.out
  clear Hq0;generalize z6k p2.s now=s3 at *;generalize z8v s3.V=st3 at *
  go_upto_region 9 with (go_at_call 84;refine HPY.out.mono ?_;rintro e w9⟨u9,x9,rfl,U9,X9,hb9⟩;clear m8;have one9:=z7f s3 U9.one';have sS9:=z7Y (CAt.new 43 w9 Z63) rfl (z0g s3 u9) one9;unfold Z63 at sS9)
  change Code.wp prog _ _ _ ((w9.alloc (.cells Z63 43)).setCells w9.heap.size 0 (stC s3 u9).toList);have bS:Below w9.heap.size w9 ((w9.alloc (.cells Z63 43)).setCells w9.heap.size 0 (stC s3 u9).toList):=z0b (Nat.le_refl _) _ _ _ (znw w9 _);have T10:CAt 43 ((w9.alloc (.cells Z63 43)).setCells w9.heap.size 0 (stC s3 u9).toList) w9.heap.size (stC s3 u9):=(CAt.new 43 w9 Z63).z0H rfl;have b10:=zbt hb9 bS;have C10:=H8.out.1.over b10;have R10:=H8.out.2.1.over b10;have B10:=zbt H8.out.2.2.1 b10;have P10:=H8.out.2.2.2.over b10;have U10:=U9.over bS;have X10:=X9.over bS;have hs9:=hb9.size;clear bS b10 sS9 hb9 U9 X9 H8 HPY;generalize (w9.alloc (.cells Z63 43)).setCells w9.heap.size 0 (stC s3 u9).toList=w10 at *;have hz10:=T10.lt;generalize w9.heap.size=tb at *;have H10:=hide (show _/\_/\_/\_/\_/\_/\_ from⟨T10,C10,R10,B10,P10,U10,X10⟩);have k10:=z7v (T10.over (Below.refl _ _).drew) (z0g _ _);clear T10 C10 R10 B10 P10 U10 X10
  go_upto_region 11 with fail
  apply q3G (fun s11 w'=>∃ w11 wS,w'=wS.setCell ⟨gn,65,none⟩ s11/\wS=w11.setCells gn 2 (stC s3 u9).toList/\Below w10.heap.size w10 w11/\Rep (fun b=>w10.heap.size<=b) w11 s11 2 16 (pwC st3))
  ·refine wp_region_noPanic ?_
   have HW11:Hid (∀ w11,Below w10.heap.size w10 w11->∃ wS,wS=w11.setCells gn 2 (stC s3 u9).toList/\(q1T (.pointer (some ⟨gn,2,none⟩)) (.agg (stC s3 u9))).run prog w11=.ok () wS/\wS.cell? ⟨gn,65,none⟩=some v8.set/\wS.frozen? ⟨gn,65,none⟩=false/\gn<wS.heap.size):=fun w11 b11=>by
    have C11:=H10.out.2.1.over b11;have C12:=C11.z1l s3 u9;exact⟨_,rfl,z2Z C11 (z0a _ _) (z0g s3 u9) one9,C12.cell 65,C12.free 65,C12.lt⟩
   go_region_with (go_at_call 85;refine (HST.out _ _).mono ?_;rintro e w11⟨s11,rfl,S11,hb11⟩;have b11:=(Below.refl w10.heap.size w10).drew.trans hb11;have k11:=z7v (H10.out.1.over b11) (z0g _ _);obtain⟨wS,hwS,sS11,y65,yf65,yz⟩:=HW11.out w11 b11;have sL11:=q9K S11.one' y65 yf65;clear y65 yf65;have HwS:=hide hwS;clear hwS)
   all_goals exact NoPanic.normal ⟨s11,rfl,rfl,w11,wS,rfl,HwS.out,b11,S11⟩
  rintro s11 w'⟨w11,wS,rfl,hwS,b11,S11⟩;have C12:=(H10.out.2.1.over b11).z1l s3 u9;have R12:=(H10.out.2.2.1.over b11).others (c:=gn) (o:=2) (by omega) (stC s3 u9).toList
  have B11:=zbt H10.out.2.2.2.1 b11;have B12:=z0b (b:=gn) (B:=w.heap.size) (by omega) (stC s3 u9).toList 2 _ B11
  rw[← hwS]at C12 R12 B12;have C13:=C12.set 65 s11;rw[j9M]at C13;have R13:=R12.other (c:=gn) (o:=65) (by omega) s11
  have B13:=B12.setCell (p:=⟨gn,65,none⟩) (by show _<=gn;omega) s11
  have A13:Alt gn w11 (wS.setCell ⟨gn,65,none⟩ s11):=by rw[hwS];exact (Alt.sets (stC s3 u9).toList (Alt.refl gn w11) 2).set 65 s11
  have hs10:=H10.out.1.lt
  have P13:PIn (Nx P w gn) (wS.setCell ⟨gn,65,none⟩ s11) q0 { v8 with ws:=u9,set:=s11 }:=by
   have no:=q7A (P:=P) (w:=w) (g:=gn) (by omega)
   have p1:=A13.pin no (H10.out.2.2.2.2.1.over b11);have hU:Rep (Nx P w gn) w11 u9 8 64 (wsL s3.W):=(H10.out.2.2.2.2.2.1.over b11).mono fun b _ hb=>.inr (by have hb':w8.heap.size<=b:=hb;omega)
   have hS:Rep (Nx P w gn) w11 s11 2 16 (pwC st3):=S11.mono fun b _ hb=>.inr (by have hb':w10.heap.size<=b:=hb;omega)
   rw[Hq0'.out];exact⟨A13.rep no hU,A13.rep no hS,p1.lk,p1.q⟩
  have X13:Rep (Nx P w gn) (wS.setCell ⟨gn,65,none⟩ s11) x9 1 8 (inC (z2m now p2.s.W)):=A13.rep (q7A (by omega)) ((H10.out.2.2.2.2.2.2.over b11).mono fun b _ hb=>.inr (by have hb':w8.heap.size<=b:=hb;omega))
  have C13':CAt 57 (wS.setCell ⟨gn,65,none⟩ s11) gn (prC q0 { v8 with ws:=u9,set:=s11 }):=by rw[Hq0'.out];exact C13
  clear C12 R12 B11 B12 C13 A13 hwS b11 S11 H10;generalize ({ v8 with ws:=u9,set:=s11 }:PrV)=v13 at *
  generalize wS.setCell ⟨gn,65,none⟩ s11=w13 at *;have hz13:=C13'.lt;have hr13:=R13.lt;have H13:=hide (show _/\_/\_/\_/\_ from⟨C13',R13,B13,P13,X13⟩);clear C13' R13 B13 P13 X13 k10 HST HLN Hq0';simp only[Exit.then];apply_assumption
  go_upto_region 13 with fail
  go_loopw [60] (fun i wl=>∃ (k:Nat) (vk:PrV),k<=2/\i=.int .i64 (k:Int)/\Hid (CAt 57 wl gn (prC (if k=0 then q0 else if k=1 then q1 else q2) vk)/\PIn (Nx P w gn) wl (if k=0 then q0 else if k=1 then q1 else q2) vk/\Alt gn w13 wl)) (fun i _=>(2 - intOf i).toNat)
  case atStart=>exact⟨0,v13,by omega,rfl,H13.out.1,H13.out.2.2.2.1,Alt.refl _ _⟩
  case round =>
   obtain⟨k,vk,hk,rfl,HR⟩:=hrel
   by_cases hk2:k<2
   ·have hkk:(k:Int)<2:=by omega
    have hk0:(0:Int)<=(k:Int):=by omega
    have e1:(if k=0 then q0 else if k=1 then q1 else q2)=if k=0 then q0 else q1:=by
     rcases (show k=0∨k=1 by omega) with rfl | rfl <;> rfl
    have e2:(if k=0 then q1 else q2)=if k+1=0 then q0 else if k+1=1 then q1 else q2:=by
     rcases (show k=0∨k=1 by omega) with rfl | rfl <;> rfl
    have hsz:=HR.out.2.2.size;have ht:=HHT.out k hk2 gn vk wr (Nx P w gn) (by rw[← e1];exact HR.out.1) (by rw[← e1];exact HR.out.2.1) (q7A (by omega))
    rw[e2]at ht;have HTT:=hide ht;clear ht e1 e2
    go_upto_region 16 with (go_at_call 86;refine HTT.out.mono ?_;rintro e w14⟨v14,rfl,C14,P14,A14⟩)
    have HF:=hide (show _/\_/\_ from⟨C14,P14.mono (P':=Nx P w gn) (fun b _ hb=>j7T (by omega) (by omega) hb),HR.out.2.2.trans A14⟩)
    clear C14 P14 A14 HTT HR;go_wp2
    first | exact⟨⟨k+1,v14,by omega,by go_num,HF⟩,by simp[intOf];omega⟩ | ((repeat apply Exists.intro);exact⟨⟨k+1,v14,by omega,by go_num,HF⟩,rfl⟩)
   ·obtain rfl:k=2:=by omega
    have C15:CAt 57 wr gn (prC q2 vk):=HR.out.1;have P15:PIn (Nx P w gn) wr q2 vk:=HR.out.2.1;have A15:=HR.out.2.2;have R15:=A15.cat (b:=w.heap.size+1) (by omega) H13.out.2.1
    have B15:=H13.out.2.2.1.trans (A15.below (by omega) H13.out.2.2.1.size)
    have X15:=A15.rep (q7A (P:=P) (w:=w) (g:=gn) (by omega)) H13.out.2.2.2.2
    have l15:=z0k C15 (z0a _ _);have s15:=z0l R15 z0e (z0a q2 vk) (z1c P15);have HZ:=hide (show _/\_/\_/\_ from⟨R15,B15,P15.mono (P':=New P w 2) (fun _ _ h=>j4F h),X15.mono (P':=New P w 2) (fun _ _ h=>j4F h)⟩);clear C15 P15 A15 R15 B15 X15 HR H13 HHT;go_wp2;exact q1s results66 HZ.out.1 z0e HZ.out.2.1 q2 vk x9 _ 0 D HD.out HZ.out.2.2.1 HZ.out.2.2.2 _ rfl rfl rfl rfl
 ·replace HD:=hide (HD.out.trans (if_neg hok))
  have hcs:G=false∨(G=true/\isT now=false)∨(G=true/\isT now=true/\now<p.t):=by
   cases G
   ·exact .inl rfl
   ·cases h:isT now
    ·exact .inr (.inl ⟨rfl,rfl⟩)
    ·exact .inr (.inr ⟨rfl,rfl,by have:=hok;simp only[h,true_and]at this;omega⟩)
  clear hok HHQ HHT Hg2 HGH Hq0
  rcases hcs with rfl | ⟨rfl,h1⟩ | ⟨rfl,h1,h2⟩
  all_goals
   go_upto_region 2 with (first
    | (go_at_call 74;refine (HGD.out _ H0.out.2.2).mono ?_;rintro e w1⟨rfl,hb1⟩;clear l0;have a1:w1.cell? ⟨w.heap.size,1,none⟩=some (.int .i64 p.t):=(H0.out.1.over hb1).cell 1)
    | (go_at_call 76;refine (z3V _ _).mono ?_;rintro e w'⟨rfl,rfl⟩))
   have R1:=H0.out.2.1.over hb1;have l1:=z0k (H0.out.1.over hb1) (z0a _ _);have s1:=z0l R1 z0e (z0a p v) hone;have B1:=zbt H0.out.2.2 hb1;have HZ:=hide (show _/\_ from⟨R1,B1⟩);clear R1 B1 hb1 hone H0 HGD a1;go_wp2;exact q1s results66 HZ.out.1 z0e HZ.out.2 p v (.slice none 0 0) [] 2 D HD.out (HN.out _ HZ.out.2) (Rep.nil _ _ _ _) _ rfl rfl rfl rfl
end Pv
end Go.Proofs.YtmopekkhmhhcaaaGreat
