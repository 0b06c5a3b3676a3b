/- Parts of the proof: LF PVKR WO WRN WRU WRT WRL. -/
import Derived.Test.YtknaapahicaobaaGreatRows
import Derived.Test.YtknaapahicaobaaGreatDK17
import Derived.Laws.AppendOwn
import Derived.Laws.MakeOwn
import Derived.ChangeOld
set_option maxRecDepth 100000
set_option maxHeartbeats 16000000
namespace Go.Proofs.YtknaapahicaobaaGreat
open Go.Proofs.Tryz
namespace Ln
open Go.RowKit
theorem step_app{P:Program}{ops:Array Oper}{o:Oper}{a:Act}{w:World}{K:Act->World->Prop}{Q:Exit->Act->World->Prop}{E:Prop}
  (hg:o.guard=none) (s x:Operand) (t:TypeId) (hop:o.op=Op.call { callee:=Callee.builtin Builtin.append,args:=#[s,x],argTypes:=#[t,t] })
  (base:Nat) (e:TypeId) (i:TypeInfo) (z:Value) (size bytes:Nat) (h1:P.underlying t=some (.slice e)) (h2:P.info? e=some i) (h3:i.zero=some z) (h4:i.size=size) (h5:i.bytes=bytes) (h6:z.cells.size=size) (h7:0<size)
  (v:Value) (n:Nat) (xs:List Value) (hs:a.eval s=v) (hown:w.ownsRow base e size v n xs)
  (ao:Option Addr) (m c:Nat) (news:List Value) (hx:a.eval x=.slice ao m c) (hn:news.length=m * size) (hnone:ao=none->m=0/\c=0) (hc:∀ ad,ao=some ad->∀ j u,news[j]?=some u->w.cell? (ad.add j)=some u) (h1c:∀ u∈news,u.oneCell'=true)
  (b1:n+m<=maxLen) (b2:(n+m) * bytes<=140737488355328) (b3:base<=w.heap.size)
  (hK:∀ A C w',w'.ownsRow base e size (.slice A (n+m) C) (n+m) (xs ++ news)->w.grownBy w' v.ownBlock->K (a.put o.dst (.slice A (n+m) C)) w') :
  if Region.wanted o (yielded ops a.tmps)=true then Oper.wp P o a w K Q else E:=by
 have hw:Region.wanted o (yielded ops a.tmps)=true:=by simp[Region.wanted,hg]
 rw[if_pos hw];cases ao with
 | some ad =>
  obtain ⟨v',w',hrun,r1,r2,_⟩:=run_append_own (P:=P) w base t o.type e i z size bytes h1 h2 h3 h4 h5 h6 h7 v n xs hown ad m c news hn (hc ad rfl) h1c b1 b2 b3;unfold Oper.wp
  simp[execOp,hop,resolve,invoke,builtin,hs,hx,hrun,Result.andThen]
  obtain ⟨A,C,rfl⟩:=z3h r1;exact hK A C w' r1 r2
 | none =>
  obtain ⟨rfl,rfl⟩:=hnone rfl;obtain rfl:news=[]:=List.eq_nil_of_length_eq_zero (by simpa using hn)
  have hrun:=run_append_owned_none (P:=P) w base t o.type e i size h1 h2 v n xs hown;unfold Oper.wp
  simp[execOp,hop,resolve,invoke,builtin,hs,hx,hrun,Result.andThen]
  obtain ⟨A,C,rfl⟩:=z3h hown;exact hK A C w (by simpa using hown) (World.grownBy.refl w _)
end Ln
namespace Pv
open Go.RowKit
section
variable {P:Nat->Prop} {w w':World} {v:Value} {sz bts:Nat} {cs:List Value}
end
theorem wpList_app{P:Program}{ops:Array Oper}{rest:List Oper}{o:Oper}{a:Act}{w:World}{Q:Exit->Act->World->Prop}
  (hg:o.guard=none) (s x:Operand) (t:TypeId) (hop:o.op=Op.call { callee:=Callee.builtin Builtin.append,args:=#[s,x],argTypes:=#[t,t] })
  (base:Nat) (e:TypeId) (i:TypeInfo) (z:Value) (size bytes:Nat) (h1:P.underlying t=some (.slice e)) (h2:P.info? e=some i) (h3:i.zero=some z) (h4:i.size=size) (h5:i.bytes=bytes) (h6:z.cells.size=size) (h7:0<size)
  (v:Value) (n:Nat) (xs:List Value) (hs:a.eval s=v) (hown:w.ownsRow base e size v n xs)
  (ao:Option Addr) (m c:Nat) (news:List Value) (hx:a.eval x=.slice ao m c) (hn:news.length=m * size) (hnone:ao=none->m=0/\c=0) (hc:∀ ad,ao=some ad->∀ j u,news[j]?=some u->w.cell? (ad.add j)=some u) (h1c:∀ u∈news,u.oneCell'=true)
  (b1:n+m<=maxLen) (b2:(n+m) * bytes<=140737488355328) (b3:base<=w.heap.size)
  (hK:∀ A C w',w'.ownsRow base e size (.slice A (n+m) C) (n+m) (xs ++ news)->w.grownBy w' v.ownBlock->wpList P ops Q rest (a.put o.dst (.slice A (n+m) C)) w'):wpList P ops Q (o :: rest) a w:=by
 refine wpList_plain hg fun K hK'=>?_;have:=Ln.step_app (P:=P) (ops:=ops) (o:=o) (a:=a) (w:=w) (K:=K) (Q:=Q) (E:=False) hg s x t hop base e i z size bytes h1 h2 h3 h4 h5 h6 h7 v n xs hs hown ao m c news hx hn hnone hc h1c b1 b2 b3 (fun A C w' r1 r2=>hK' _ _ (hK A C w' r1 r2));have hw:Region.wanted o (yielded ops a.tmps)=true:=by simp[Region.wanted,hg]
 rwa [if_pos hw]at this
end Pv
namespace Wd
open Go.ChangeShapes Go.WideShapes Go.ChangeAt Go.RowKit Go.Deep
section
variable {H:Type} {enc:TypeId×Value->H} {W:World}
theorem open_numb{r:Reach}{b0:Nat}{v:Value}{d:DataW H}{p:List MemPlace}(hv:Value.okWide prog W r b0 3 v)(h:DataW.Trod enc prog W 0 (fun _=>true) true 3 v d p):∃ n:Int,v=.int .i64 n/\-9223372036854775808<=n/\n<=9223372036854775807:=by
 obtain ⟨n,e,_,_,wf⟩:=open_int underlying3 hv h;exact ⟨n,e,bounds_i64 wf⟩
end
end Wd
namespace Wd
open Go.RowKit Pv Kc
def runR(x:Wo):List Dd->List (Int×Int)
 | []=>[]
 | d :: r=>((doW x d).2.1,(doW x d).2.2) :: runR (doW x d).1 r
theorem runR_len:∀ (l:List Dd) (x:Wo),(runR x l).length=l.length
 | [],_=>rfl
 | d :: r,x=>by
  show (runR (doW x d).1 r).length+1=r.length+1
  rw[runR_len r]
theorem runR_app:∀ (a b:List Dd) (x:Wo),runR x (a ++ b)=runR x a ++ runR (a.foldl (fun x d=>(doW x d).1) x) b
 | [],_,_=>rfl
 | d :: a,b,x=>by
  show _ :: runR (doW x d).1 (a ++ b)=_ :: (runR (doW x d).1 a ++ _)
  rw[runR_app a b];rfl
theorem runR_take(l:List Dd)(n:Nat)(hn:n<=l.length):runR z9V (l.take n)=(runR z9V l).take n:=by
 have h:=runR_app (l.take n) (l.drop n) z9V;rw[List.take_append_drop]at h;rw[h];have hl:(runR z9V (l.take n)).length=n:=by rw[runR_len,List.length_take];omega
 generalize runR z9V (l.take n)=A at *;rw[← hl,List.take_left'];rfl
theorem runR_succ{l:List Dd}{k:Nat}{d:Dd}(h:l[k]?=some d):runR z9V (l.take (k+1))=runR z9V (l.take k) ++ [((doW (stW l k) d).2.1,(doW (stW l k) d).2.2)]:=by
 rw[List.take_add_one,h,runR_app];rfl
structure StX(B g rb:Nat)(x:Wo)(w:World):Prop where
 at_:∃ v,CAt 92 w g (wdC x v)/\WIn (fun b=>B<=b/\b≠g/\b≠rb) w x v
 inv:Inv x
 le:B<=g
 lt:g<w.heap.size
 ne:g≠rb
theorem StX.of{B g:Nat}{x:Wo}{w:World}(h:StW B g x w)(o:Obj):StX B g w.heap.size x (w.alloc o):=by
 obtain ⟨v,hc,hi⟩:=h.at_;have hl:=h.lt;have hb:Below w.heap.size w (w.alloc o):=znw w o;exact ⟨⟨v,hc.over hb,(hi.mono (P':=fun b=>B<=b/\b≠g/\b≠w.heap.size) fun b hl hp=>⟨hp.1,hp.2,by omega⟩).over hb⟩,h.inv,h.le,(hc.over hb).lt,by omega⟩
theorem StX.over{B g rb:Nat}{x:Wo}{w w':World}(h:StX B g rb x w)(hb:Below w.heap.size w w'):StX B g rb x w':=by
 obtain ⟨v,hc,hi⟩:=h.at_;exact ⟨⟨v,hc.over hb,hi.over hb⟩,h.inv,h.le,(hc.over hb).lt,h.ne⟩
theorem StX.alt{B g rb:Nat}{x:Wo}{w w':World}(h:StX B g rb x w)(ha:Alt rb w w'):StX B g rb x w':=by
 obtain ⟨v,hc,hi⟩:=h.at_;have hc':=ha.cat h.ne hc;exact ⟨⟨v,hc',hi.keep fun b hb hl=>ha.block b hl hb.2.2⟩,h.inv,h.le,hc'.lt,h.ne⟩
theorem xdo_any(B g rb:Nat)(x:Wo)(d:Dd)(w:World)(h:StX B g rb x w)(hr:rb<w.heap.size) :
  Calls prog 21 #[.pointer (some ⟨g,0,none⟩),.agg (ddC d)] w fun e w'=>e=.returned (.agg #[.int .i64 (doW x d).2.1,.int .i64 (doW x d).2.2])/\StX B g rb (doW x d).1 w'/\Alt g w w':=by
 obtain ⟨v,hc,hi⟩:=h.at_;refine (j4W g x v _ w d.k d.c d.d d.v d.n d.b d.f hc hi (fun h=>h.2.1 rfl) h.inv).mono ?_;rintro e w' ⟨rfl,v',hc',hi',ha⟩;have hl:=h.lt;have hB:=h.le;refine ⟨rfl,⟨⟨v',hc',hi'.mono fun b _ hb=>?_⟩,j6r h.inv d,h.le,hc'.lt,h.ne⟩,ha⟩
 rcases hb with hb | hb
 ·exact hb.1
 ·exact ⟨by omega,by omega,by omega⟩
def RyAt(N rb k:Nat)(r:List (Int×Int))(w:World):Prop:=∃ cur,CAt 30 w rb cur/\cur.size=N * 2/\r.length=k/\k<=N/\cur.toList.take (k * 2)=pwC r
theorem RyAt.over{N rb k:Nat}{r:List (Int×Int)}{w w':World}(h:RyAt N rb k r w)(hb:Below w.heap.size w w'):RyAt N rb k r w':=by
 obtain ⟨cur,hc,h1⟩:=h;exact ⟨cur,hc.over hb,h1⟩
theorem RyAt.alt{N rb k g:Nat}{r:List (Int×Int)}{w w':World}(h:RyAt N rb k r w)(ha:Alt g w w')(hg:rb≠g):RyAt N rb k r w':=by
 obtain ⟨cur,hc,h1⟩:=h;exact ⟨cur,ha.cat hg hc,h1⟩
theorem RyAt.lt{N rb k:Nat}{r:List (Int×Int)}{w:World}(h:RyAt N rb k r w):rb<w.heap.size:=by
 obtain ⟨cur,hc,-⟩:=h;exact hc.lt
theorem infoRy':(prog.info? 30).map (fun i=>(i.zero,i.size,i.bytes))=some (some (.agg #[.int .i64 0,.int .i64 0]),2,16):=by kernel_rfl
theorem ry_make(w:World)(N:Nat)(hN:N<=600):∃ cur,(Instr.makeSlice 71 (.int .i64 0) (.int .i64 (N:Int))).run prog w=.ok (.slice (some ⟨w.heap.size,0,none⟩) 0 N) (w.alloc (.cells cur 30))/\RyAt N w.heap.size 0 [] (w.alloc (.cells cur 30)):=by
 obtain ⟨i0,hi,hz0,hz1,hz2⟩:=info_parts infoRy';have h:=run_make (P:=prog) w 71 30 i0 _ underlying71 hi hz0 .i64 .i64 0 (N:Int) (by omega) (by omega) (by rw[hz2];omega) (by omega)
 rw[Int.toNat_natCast,hz1]at h;exact ⟨_,h,_,CAt.new _ w _,size_madeCells _ _,rfl,Nat.zero_le _,by simp[pwC]⟩
theorem ry_app{N rb k:Nat}{r:List (Int×Int)}{w:World}{a b:Int}{s:Nat}(h:RyAt N rb k r w)(hk:k<N)(hs:CAt 30 w s #[.int .i64 a,.int .i64 b]) :
  ∃ w',(Builtin.append_ #[71,71] 71 #[.slice (some ⟨rb,0,none⟩) k N,.slice (some ⟨s,0,none⟩) 1 1]).run prog w=.ok (.slice (some ⟨rb,0,none⟩) (k+1) N) w'/\RyAt N rb (k+1) (r ++ [(a,b)]) w'/\Alt rb w w':=by
 obtain ⟨cur,hc,hsz,hlen,hkN,htk⟩:=h;obtain ⟨i0,hi,hz0,hz1,hz2⟩:=info_parts infoRy'
 have hr:=run_append_room (P:=prog) w 71 71 30 i0 underlying71 hi rb k N cur hc ⟨s,0,none⟩ 1 1 [.int .i64 a,.int .i64 b] (by rw[hz1];rfl) (fun j u hu=>by
  rw[Addr.add_lit,Nat.zero_add,hs.cell]
  simpa using hu) (fun u hu=>by simp at hu;rcases hu with rfl | rfl <;> rfl) (by omega) (by rw[hz1];simp;omega)
 rw[hz1]at hr;refine ⟨_,hr,⟨_,setRow_heap w rb cur _ 30 _ hc,?_,by simp[hlen],by omega,?_⟩,⟨rfl,rfl,rfl,by simp,fun b _ hb=>setRow_other w rb b _ hb⟩⟩
 ·simp
  omega
 ·have hl:(cur.toList.take (k * 2)).length=k * 2:=by simp;omega
  generalize cur.toList.drop (k * 2 + [Value.int .i64 a,Value.int .i64 b].length)=R at *;rw[htk]at hl ⊢;have e:pwC (r ++ [(a,b)])=pwC r ++ [.int .i64 a,.int .i64 b]:=by simp[pwC]
  rw[e];generalize pwC r=q at *
  show (q ++ [Value.int .i64 a,Value.int .i64 b] ++ R).take ((k+1) * 2)=_
  rw[List.take_left']
  simp[hl]
  omega
end Wd
namespace Wd
open Go.RowKit Pv Kc
def storeDd(a v:Value):Sem Unit:=Instr.storeAt 27 a v
theorem storeDd_eq(a v:Value):Instr.storeAt 27 a v=storeDd a v:=rfl
theorem dd_laid(w:World)(d:Dd):∃ wa,(storeDd (.pointer (some ⟨w.heap.size,0,none⟩)) (.agg (ddC d))).run prog (w.alloc (.cells #[.int .i64 0,.int .i64 0,.int .i64 0,.int .i64 0,.int .i64 0,.bool false,.bool false] 27))=.ok () wa/\CAt 27 wa w.heap.size (ddC d)/\Below w.heap.size w wa:=by
 have R0:=CAt.new 27 w #[.int .i64 0,.int .i64 0,.int .i64 0,.int .i64 0,.int .i64 0,.bool false,.bool false];exact ⟨_,run_storeAt_mid (P:=prog) _ _ 0 27 (ddC d) (R0.there 0 _ (Nat.le_refl _)) (by rw[j2F];rfl) (by simp[ddC,Value.oneCell']),R0.z0s rfl,z0a (Nat.le_refl _) _ _ _ (znw w _)⟩
theorem dd_load'{w:World}{b:Nat}{d:Dd}(h:CAt 27 w b (ddC d)):(z8I (.pointer (some ⟨b,0,none⟩))).run prog w=.ok (.agg (ddC d)) w:=
 run_loadAt_mid (P:=prog) w b 0 27 (ddC d).toList _ h.range underlying27 rfl (by rw[j2F];rfl)
theorem wpList_ry{ops:Array Oper}{rest:List Oper}{o:Oper}{a:Act}{w:World}{Q:Exit->Act->World->Prop}(hg:o.guard=none)(hty:o.type=71)(p q:Operand)
  (hop:o.op=Op.call { callee:=Callee.builtin Builtin.append,args:=#[p,q],argTypes:=#[71,71] }) (rb k N s:Nat) (r:List (Int×Int)) (x y:Int) (hs:a.eval p=.slice (some ⟨rb,0,none⟩) k N) (hx:a.eval q=.slice (some ⟨s,0,none⟩) 1 1) (h:RyAt N rb k r w) (hk:k<N) (hc:CAt 30 w s #[.int .i64 x,.int .i64 y])
  (hK:∀ w',RyAt N rb (k+1) (r ++ [(x,y)]) w'->Alt rb w w'->wpList prog ops Q rest (a.put o.dst (.slice (some ⟨rb,0,none⟩) (k+1) N)) w'):wpList prog ops Q (o :: rest) a w:=by
 refine wpList_plain hg fun _ hK'=>?_;obtain ⟨w',hr,h1,h2⟩:=ry_app h hk hc;unfold Oper.wp execOp;simp only[hop,resolve,invoke,builtin,Sem.run_bind,Sem.run_pure,Result.andThen_ok,List.map_toArray,List.map_cons,List.map_nil,hs,hx,hty,hr];exact hK' _ _ (hK w' h1 h2)
attribute [local go_sem ↓] z4d storeDd_eq
theorem wrun_any(A:Option Addr)(C b off:Nat)(l:List Dd)(w:World)(hD:q2A w A b off l)(hl:l.length<=600) :
  Calls prog 19 #[.slice A l.length C] w fun e w'=>∃ rb,e=.returned (.tuple #[.slice (some ⟨rb,0,none⟩) l.length l.length,.int .i64 0])/\RyAt l.length rb l.length (runR z9V l) w'/\w.heap.size<=rb/\Below w.heap.size w w':=by
 have HD:=hide (fun (wx:World) (hb:Below w.heap.size w wx)=>hD.over hb (Nat.le_refl _));have hlI:(l.length:Int)<=600:=by omega
 have HN:=hide (z4q w);clear hD
 go_enter func19,ntmps19
 go_upto_region 4 with (go_at_call 26;refine HN.out.mono ?_;rintro e w2 ⟨g,rfl,h2,b2⟩;have hg2:=h2.lt;have hg0:=h2.le;have HS2:=hide (show _/\_ from ⟨h2,b2⟩);clear h2 b2)
 clear HN;obtain ⟨cur,s3,R3⟩:=ry_make w2 l.length hl;have S3:=StX.of HS2.out.1 (.cells cur 30);have B3:Below w.heap.size w (w2.alloc (.cells cur 30)):=HS2.out.2.alloc HS2.out.2.size _;have hs2:=HS2.out.2.size;have HR0:Hid (StX w.heap.size g w2.heap.size (stW l 0) (w2.alloc (.cells cur 30))/\RyAt l.length w2.heap.size 0 (runR z9V (l.take 0)) (w2.alloc (.cells cur 30))/\Below w.heap.size w (w2.alloc (.cells cur 30))):=⟨S3,R3,B3⟩;clear S3 R3 B3 HS2
 go_upto_region 6 with fail
 clear s3;generalize w2.alloc (.cells cur 30)=w3 at *;generalize hrb:w2.heap.size=rb at *;clear hrb
 go_loopw [17,5] (fun i v wl=>∃ (k:Nat),k<=l.length/\i=.int .i64 (k:Int)/\v=.slice (some ⟨rb,0,none⟩) k l.length/\Hid (StX w.heap.size g rb (stW l k) wl/\RyAt l.length rb k (runR z9V (l.take k)) wl/\Below w.heap.size w wl)) (fun i _ _=>l.length - (intOf i).toNat)
 case atStart=>exact ⟨0,Nat.zero_le _,rfl,rfl,HR0⟩
 case round =>
  obtain ⟨k,hk,rfl,rfl,HRR⟩:=hrel;clear HR0
  by_cases hlt:k<l.length
  ·have hI1:(k:Int)<(l.length:Int):=by omega
   have hx:l[k]?=some l[k]:=List.getElem?_eq_getElem hlt;have hst:=z9K hx;have hrs:=runR_succ hx;generalize l[k]=d at hx hst hrs;have HST:=hide (show _/\_ from ⟨hst,hrs⟩);have ld:=(HD.out wr HRR.out.2.2).load hx;have hA:A=some ⟨b,off,none⟩:=(HD.out wr HRR.out.2.2).adr (by omega)
   subst hA;obtain ⟨wa,s4,R4,b4⟩:=dd_laid wr d;have hzd:=R4.lt;have l4:=dd_load' R4;have HR4:=hide (show _/\_/\_ from ⟨HRR.out.1.over b4,HRR.out.2.1.over b4,zbt HRR.out.2.2 b4⟩);have HDO:=hide (xdo_any _ g rb (stW l k) d wa HR4.out.1 HR4.out.2.1.lt);clear hst hrs hx R4 b4
   go_upto_region 8 with fail
   clear s4 ld
   go_wp2_with (first
    | (go_at_call 21;refine HDO.out.mono ?_;rintro e w5 ⟨rfl,S5,a5⟩;have H5:=hide (show _/\_/\_ from ⟨S5,HR4.out.2.1.alt a5 (by omega),z6a hg0 HR4.out.2.2 a5⟩);clear S5 a5 l4)
    | (at_builtin;refine wpList_ry rfl rfl _ _ rfl rb k l.length w5.heap.size _ _ _ rfl rfl (H5.out.2.1.over (znw w5 _)) hlt (CAt.new 30 w5 #[.int .i64 (doW (stW l k) d).2.1,.int .i64 (doW (stW l k) d).2.2]) ?_;intro w7 R7 a7;have b6:Below w5.heap.size w5 (w5.alloc (.cells #[.int .i64 (doW (stW l k) d).2.1,.int .i64 (doW (stW l k) d).2.2] 30)):=znw w5 _;have H7:=hide (show _/\_/\_ from ⟨(H5.out.1.over b6).alt a7,R7,z6a hs2 (zbt H5.out.2.2 b6) a7⟩);clear b6 R7 a7))
   rw[← HST.out.1,← HST.out.2]at H7
   first | exact ⟨⟨k+1,by omega,by go_num,rfl,H7⟩,by simp[intOf];omega⟩ | ((repeat apply Exists.intro);exact ⟨⟨k+1,by omega,by go_num,rfl,H7⟩,rfl⟩)
  ·obtain rfl:k=l.length:=by omega
   go_wp2;go_ret2;have HZ:=HRR.out.2.1;rw[List.take_length]at HZ;exact ⟨rb,rfl,HZ,by omega,HRR.out.2.2⟩
end Wd
namespace Wd
open Go.RowKit Pv Kc
def ddsL(l:List Dd):List Value:=l.flatMap ddL
theorem ddsL_length:∀ l:List Dd,(ddsL l).length=l.length * 7
 | []=>rfl
 | x :: l=>by
  show (ddL x ++ ddsL l).length=_
  rw[List.length_append,ddsL_length l,List.length_cons]
  show 7+_=_
  omega
theorem ddsL_get:∀ (l:List Dd) (i:Nat) (x:Dd) (j:Nat),l[i]?=some x->j<7->(ddsL l)[i * 7+j]?=(ddL x)[j]?
 | [],_,_,_,h,_=>by simp at h
 | y :: l,0,x,j,h,hj=>by
  simp at h
  subst h
  show (ddL y ++ ddsL l)[0 * 7+j]?=_
  rw[Nat.zero_mul,Nat.zero_add,List.getElem?_append_left (by exact hj)]
 | y :: l,i+1,x,j,h,hj=>by
  show (ddL y ++ ddsL l)[(i+1) * 7+j]?=_
  rw[List.getElem?_append_right (by show 7<=_;omega),show (i+1) * 7+j - (ddL y).length=i * 7+j by show _ - 7=_;omega]
  exact ddsL_get l i x j (by simpa using h) hj
theorem ddsL_one(l:List Dd):∀ u∈ddsL l,u.oneCell'=true:=by
 intro u hu;obtain ⟨x,-,hx⟩:=List.mem_flatMap.1 hu
 simp[ddL]at hx
 rcases hx with rfl | rfl | rfl | rfl | rfl | rfl | rfl <;> rfl
theorem ds_cells{w:World}{A:Option Addr}{b off:Nat}{l:List Dd}(h:q2A w A b off l):∀ ad,A=some ad->∀ j u,(ddsL l)[j]?=some u->w.cell? (ad.add j)=some u:=by
 intro ad ha j u hu;have hj:=(List.getElem?_eq_some_iff.1 hu).1;rw[ddsL_length]at hj;have e:=h.adr (by omega)
 rw[ha]at e;cases e;have hx:l[j / 7]?=some l[j / 7]:=List.getElem?_eq_getElem (by omega)
 have hg:=ddsL_get l (j / 7) _ (j % 7) hx (by omega)
 rw[show j / 7 * 7+j % 7=j by omega,hu]at hg
 rw[Addr.add_lit,show off+j=off+j / 7 * 7+j % 7 by omega]
 exact h.cell (j / 7) _ hx (j % 7) u hg.symm
theorem ds_own{w:World}{base C:Nat}{A:Option Addr}{l:List Dd}(h:w.ownsRow base 27 7 (.slice A l.length C) l.length (ddsL l))(hl:l.length<=maxLen):∃ b off,q2A w A b off l:=by
 rcases h.2 with ⟨e,h0⟩ | ⟨g,cap,cur,e,hb,hg,h1,h2,h3,h4⟩
 ·obtain rfl:=List.eq_nil_of_length_eq_zero h0;exact ⟨0,0,fun h=>absurd h (by simp),hl,fun i x h=>by simp at h⟩
 ·cases e;refine ⟨g,0,fun _=>rfl,hl,fun i x hx j v hv=>?_⟩;have hj:j<7:=(List.getElem?_eq_some_iff.1 hv).1;have hi:=(List.getElem?_eq_some_iff.1 hx).1;have hgt:=ddsL_get l i x j hx hj;rw[hv,← h4,List.getElem?_take,if_pos (by omega)]at hgt
  rw[Nat.zero_add,(show CAt 27 w g cur from hg).cell]
  simpa using hgt
theorem ds_own'{w:World}{base C n:Nat}{A:Option Addr}{l:List Dd}(hn:l.length=n)(h:w.ownsRow base 27 7 (.slice A n C) n (ddsL l))(hl:n<=maxLen):∃ b off,q2A w A b off l:=by
 subst hn;exact ds_own h hl
theorem q2A.take{w:World}{A:Option Addr}{b off:Nat}{l:List Dd}(h:q2A w A b off l)(n:Nat):q2A w A b off (l.take n):=by
 refine ⟨fun h0=>h.adr (by rw[List.length_take]at h0;omega),by have:=h.len;rw[List.length_take];omega,fun i x hx=>h.cell i x ?_⟩
 rw[List.getElem?_take]at hx
 split at hx
 ·exact hx
 ·cases hx
theorem infoDd':(prog.info? 27).map (fun i=>(i.zero,i.size,i.bytes))=some (some (.agg #[.int .i64 0,.int .i64 0,.int .i64 0,.int .i64 0,.int .i64 0,.bool false,.bool false]),7,48):=by kernel_rfl
theorem RyAt.at_{N rb k:Nat}{r:List (Int×Int)}{w:World}(h:RyAt N rb k r w){i:Nat}(hi:i<k):w.cell? ⟨rb,i * 2,none⟩=some (.int .i64 (r.getD i (0,0)).1)/\w.cell? ⟨rb,i * 2+1,none⟩=some (.int .i64 (r.getD i (0,0)).2):=by
 obtain ⟨cur,hc,hs,hl,hk,ht⟩:=h;obtain ⟨g1,g2⟩:=z1P r i (by omega)
 rw[← ht,List.getElem?_take,if_pos (by omega)]at g1 g2
 rw[hc.cell,hc.cell];exact ⟨by simpa using g1,by simpa using g2⟩
theorem neRy(w:World)(a b:Int):(binOp .neq 30 (.agg #[.int .i64 a,.int .i64 b]) (.agg #[.int .i64 a,.int .i64 b])).run prog w=.ok (.bool false) w:=by
 rw[run_neq_struct];go_simp
theorem ltruns_some(ad:Addr)(C b off:Nat)(l:List Dd)(n:Int)(w:World)(hD:q2A w (some ad) b off l)(hcap:l.length<=C) :
  Calls prog 5 #[.slice (some ad) l.length C,.int .i64 n] w fun e w'=>e=.returned (.bool true)/\Below w.heap.size w w':=by
 have HA:=hide (fun wx=>z6e wx)
 by_cases h120:120<l.length
 ·have hI:(120:Int)<(l.length:Int):=by omega
  clear hD
  go_enter func5,ntmps5
  go_wp2_with (first
   | (go_at_call 18;have _m:=HB1;refine (HA.out _).mono ?_;rintro e w2 ⟨rfl,b2⟩;have HB2:=hide (zbt HB1.out b2);clear b2)
   | (go_at_call 18;refine (HA.out _).mono ?_;rintro e w1 ⟨rfl,b1⟩;have HB1:=hide b1;clear b1))
  go_ret;exact ⟨rfl,HB2.out⟩
 ·have hI:¬ (120:Int)<(l.length:Int):=by omega
  have hw1:IntKind.i64.wrap ((l.length:Int)+1)=(l.length:Int)+1:=z7V (by omega) (by omega)
  have hne:((l.length:Int)+1)≠0:=by omega
  have HDS:=hide (fun (wx:World) (hb:Below w.heap.size w wx)=>hD.over hb (Nat.le_refl _));have hlt:=Int.tmod_lt_of_pos n (show (0:Int)<(l.length:Int)+1 by omega)
  have hgt:-((l.length:Int)+1)<Int.tmod n ((l.length:Int)+1):=by
   have:=Int.tmod_lt_of_pos (-n) (show (0:Int)<(l.length:Int)+1 by omega)
   rw[Int.neg_tmod]at this;omega
  have hw2:IntKind.i64.wrap (Int.tmod n ((l.length:Int)+1))=Int.tmod n ((l.length:Int)+1):=z7V (by omega) (by omega)
  clear hD;generalize hq:Int.tmod n ((l.length:Int)+1)=q at *
  go_enter func5,ntmps5
  go_upto_region 4 with (go_at_call 18;refine (HA.out _).mono ?_;rintro e w1 ⟨rfl,b1⟩;have HB1:=hide b1;clear b1)
  obtain ⟨i0,hi,hz0,hz1,hz2⟩:=info_parts infoDd';have hnn:some ad=none->l.length=0/\C=0:=fun e=>by cases e
  have bT:0+l.length<=maxLen:=by unfold maxLen;omega
  have hs1:=HB1.out.size;obtain ⟨m,hm,hml⟩:∃ m:Nat,q.natAbs=m/\m<=l.length:=⟨_,rfl,by omega⟩
  have hmC:m<=C:=by omega
  have hmI:(m:Int)<=(C:Int):=by omega
  have hm0:(0:Int)<=(m:Int):=by omega
  have hlm:(l.take m).length=m:=by rw[List.length_take];omega
  by_cases hneg:q<0
  have hw3:IntKind.i64.wrap (-q)=(m:Int):=by rw[z7V (by omega) (by omega)];omega
  go_upto_region 6 with fail
  rotate_left
  obtain rfl:q=(m:Int):=by omega
  go_upto_region 6 with fail
  all_goals
   have D1:=HDS.out _ HB1.out;have HD1:=hide D1;clear D1 hq hlt hgt hw1 hw2 hne
   go_upto_region 7 with (first
    | (at_builtin;refine wpList_app rfl _ _ 22 rfl w1.heap.size 27 i0 _ 7 48 underlying22 hi hz0 hz1 hz2 rfl (by decide) (.slice none 0 0) 0 [] rfl (World.ownsRow_nil _ _ _ _) (some ad) l.length C (ddsL l) rfl (ddsL_length l) hnn (ds_cells HD1.out) (ddsL_one l) bT (by omega) (Nat.le_refl _) ?_;intro A2 C2 w2 ho hg2;rw[Nat.zero_add,List.nil_append]at ho;obtain ⟨b2,o2,D2⟩:=ds_own ho (by omega);have HD2:=hide D2;have HB2:Hid (Below w1.heap.size w1 w2):=(Below.refl _ w1).grown hg2 (Nat.le_refl _) (fun k hk=>by cases hk);clear ho hg2 D2)
    | (go_at_call 19;refine (wrun_any A2 C2 b2 o2 l w2 HD2.out (by omega)).mono ?_;rintro e w3 ⟨ra,rfl,R3,hra,b3⟩;have H3:=hide (show _/\_ from ⟨R3,HB1.out.trans ((zbt HB2.out b3).mono HB1.out.size)⟩);clear R3 b3))
   clear HD1 HD2 HB2 HB1;have HD3:=hide ((HDS.out _ H3.out.2).take m);have hnm:some ad=none->m=0/\C=0:=fun e=>by cases e
   have bM:0+m<=maxLen:=by unfold maxLen;omega
   skip
   all_goals
    go_upto_region 8 with (first
     | (at_builtin;refine wpList_app rfl _ _ 22 rfl w3.heap.size 27 i0 _ 7 48 underlying22 hi hz0 hz1 hz2 rfl (by decide) (.slice none 0 0) 0 [] rfl (World.ownsRow_nil _ _ _ _) _ m C (ddsL (l.take m)) rfl (by rw[ddsL_length,hlm]) hnm (ds_cells HD3.out) (ddsL_one _) bM (by omega) (Nat.le_refl _) ?_;intro A4 C4 w4 ho hg4;rw[Nat.zero_add,List.nil_append]at ho;obtain ⟨b4,o4,D4⟩:=ds_own' hlm ho (by omega);have HD4:=hide D4;have HB4:Hid (Below w3.heap.size w3 w4):=(Below.refl _ w3).grown hg4 (Nat.le_refl _) (fun k hk=>by cases hk);have HRN:=hide (wrun_any A4 C4 b4 o4 (l.take m) w4 HD4.out (by omega));rw[hlm]at HRN;clear ho hg4 D4)
     | (go_at_call 19;refine HRN.out.mono ?_;rintro e w5 ⟨rb,rfl,R5,hrb,b5⟩;have H5:=hide (show _/\_/\_ from ⟨(H3.out.1.over HB4.out).over b5,R5,H3.out.2.trans ((zbt HB4.out b5).mono H3.out.2.size)⟩);clear R5 b5))
    clear HRN HD4 HB4 HD3 hi hz0 hz1 hz2 H3
    go_upto_region 11 with fail
    go_loopw [9] (fun i wl=>∃ (k:Nat),k<=m/\i=.int .i64 (k:Int)/\Hid (Below w5.heap.size w5 wl)) (fun i _=>m - (intOf i).toNat)
    case atStart=>exact ⟨0,Nat.zero_le _,rfl,Below.refl _ _⟩
    case round =>
     obtain ⟨k,hk,rfl,HB⟩:=hrel
     by_cases hkm:k<m
     ·have hkI:(k:Int)<(m:Int):=by omega
      have hkL:(k:Int)<(l.length:Int):=by omega
      have hk0:(0:Int)<=(k:Int):=by omega
      obtain ⟨c0,c1⟩:=(H5.out.1.over HB.out).at_ (show k<l.length by omega)
      obtain ⟨d0,d1⟩:=(H5.out.2.1.over HB.out).at_ hkm;rw[runR_take l m hml,List.getD_eq_getElem?_getD,List.getElem?_take,if_pos hkm,← List.getD_eq_getElem?_getD]at d0 d1;have n4:=fun w=>neRy w ((runR z9V l).getD k (0,0)).1 ((runR z9V l).getD k (0,0)).2;generalize ((runR z9V l).getD k (0,0)).1=y0 at *;generalize ((runR z9V l).getD k (0,0)).2=y1 at *
      go_upto_region 13 with fail
      go_quiet (fail);go_wp2;go_roundw
      case rel=>exact ⟨k+1,by omega,by go_num,HB.out.os,HB.out.tape,HB.out.output,HB.out.size,HB.out.block⟩
      case measure=>simp[intOf];omega
     ·have hkI:¬ (k:Int)<(m:Int):=by omega
      have HZ:=hide (zbt H5.out.2.2 HB.out);clear H5 HB;go_wp2;go_ret;exact ⟨rfl,HZ.out⟩
theorem ltruns_none(n:Int)(w:World):Calls prog 5 #[.slice none 0 0,.int .i64 n] w fun e w'=>e=.returned (.bool true)/\Below w.heap.size w w':=by
 have HA:=hide (fun wx=>z6e wx);have HRN:Hid (∀ wx,Calls prog 19 #[.slice none 0 0] wx fun e w'=>∃ rb,e=.returned (.tuple #[.slice (some ⟨rb,0,none⟩) 0 0,.int .i64 0])/\Below wx.heap.size wx w'):=fun wx=>(wrun_any none 0 0 0 [] wx ⟨fun h=>absurd h (by simp),by simp,fun i x h=>by simp at h⟩ (by simp)).mono fun e w' ⟨rb,he,_,_,hb⟩=>⟨rb,he,hb⟩
 have ht:Int.tmod n 1=0:=Int.tmod_one n;have hw1:IntKind.i64.wrap (0+1)=1:=by decide
 have hw2:IntKind.i64.wrap 0=0:=by decide
 go_enter func5,ntmps5
 go_wp2_with (first
  | (go_at_call 18;refine (HA.out _).mono ?_;rintro e w1 ⟨rfl,b1⟩;have HB1:=hide b1;clear b1)
  | (go_at_call 19;have _m:=HB2;refine (HRN.out _).mono ?_;rintro e w3 ⟨rb,rfl,b3⟩;have HB3:=hide (zbt HB2.out b3);clear b3)
  | (go_at_call 19;refine (HRN.out _).mono ?_;rintro e w2 ⟨ra,rfl,b2⟩;have HB2:=hide (zbt HB1.out b2);clear b2))
 go_loopw [9] (fun i wl=>i=.int .i64 0/\Hid (Below w3.heap.size w3 wl)) (fun _ _=>0)
 case atStart=>exact ⟨rfl,Below.refl _ _⟩
 case round =>
  obtain ⟨rfl,HB⟩:=hrel;have HZ:=hide (zbt HB3.out HB.out);go_wp2;go_ret;exact ⟨rfl,HZ.out⟩
theorem ltruns_any(A:Option Addr)(C b off:Nat)(l:List Dd)(n:Int)(w:World)(hD:q2A w A b off l)(hnone:A=none->C=0)(hcap:l.length<=C) :
  Calls prog 5 #[.slice A l.length C,.int .i64 n] w fun e w'=>e=.returned (.bool true)/\Below w.heap.size w w':=by
 cases A with
 | none =>
  have hC:=hnone rfl;subst hC;rw[show l.length=0 by omega]
  exact ltruns_none n w
 | some ad=>exact ltruns_some ad C b off l n w hD hcap
end Wd
end Go.Proofs.YtknaapahicaobaaGreat
