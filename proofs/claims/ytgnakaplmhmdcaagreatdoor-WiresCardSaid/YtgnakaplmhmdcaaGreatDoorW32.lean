import Derived.Test.YtgnakaplmhmdcaaGreatDoorW23
import Derived.Test.YtgnakaplmhmdcaaGreatDoorW31
import Derived.Lib.TrimUEq
set_option maxRecDepth 100000
set_option maxHeartbeats 8000000
set_option linter.unusedSimpArgs false
open Go.Proofs Go.RowKit Go.W
namespace Go.P
variable {L:Nat}{u:World}{vb vp vk vc vy vr vd:Value}{bs:List Bk}{ys rs:List ByteArray}{ds:List (Int×Int×ByteArray)}{Fb Fy Fd:List Nat}
def Kp (L:Nat) (u:World) (n:Nat):Prop:= ∃ vb vp vk vc vy vr vd bs ys rs ds Fb Fy Fr Fd,Zdf L u vb vp vk vc vy vr vd bs ys rs ds Fb Fy Fr Fd/\(∃ p m c,vp= .slice p m c)/\(∃ t,vk= .string t)/\(∃ i,vc= .int .i64 i)/\bs.length<=n/\ys.length<=n/\rs.length<=n/\ds.length<=n/\(∀ x,x∈bs-> ∃ t,Zca t (Zei t)= .ok x)/\ ∀ y,y∈ys->y.size<=65536
def Zet (L n:Nat) (u:World) (e:Ending) (w':World):Prop:=e= .returned (.tuple #[])/\Kp L w' (n+1)/\Below L u w'
theorem Kp.mk {w:World}{n:Nat}{Fr:List Nat}(h:Zdf L w vb vp vk vc vy vr vd bs ys rs ds Fb Fy Fr Fd)(hb:Below L u w)(h1: ∃ p m c,vp= .slice p m c)(h2: ∃ t,vk= .string t)(h3: ∃ i,vc= .int .i64 i)(h4:bs.length<=n+1)(h5:ys.length<=n+1)(h6:rs.length<=n+1)(h7:ds.length<=n+1)(h8: ∀ x,x∈bs-> ∃ t,Zca t (Zei t)= .ok x)(h9: ∀ y,y∈ys->y.size<=65536):Zet L n u (.returned (.tuple #[])) w:=⟨rfl,⟨vb,vp,vk,vc,vy,vr,vd,bs,ys,rs,ds,Fb,Fy,Fr,Fd,h,h1,h2,h3,h4,h5,h6,h7,h8,h9⟩,hb⟩
theorem Zdf.up {Fr:List Nat}(h:Zdf L u vb vp vk vc vy vr vd bs ys rs ds Fb Fy Fr Fd)(o:Obj):Zdf L (u.alloc o) vb vp vk vc vy vr vd bs ys rs ds Fb Fy Fr Fd:=h.later ((Yct _ u).alloc lr o)
theorem Z9i:(Tryz.prog.info? 46).map (fun i=>(i.zero,i.size,i.bytes))=some (some (.agg #[.int .i64 0,.int .i64 0,.string ⟨#[]⟩]),3,32):=by kernel_rfl
theorem Z9e:Zdp Tryz.prog 22 46 3 32:=by
 obtain⟨i0,hi,hz0,hz1,hz2⟩:=info_parts Z9i;exact⟨i0,_,Tryz.underlying22,hi,hz0,hz1,hz2,rfl,by decide,by decide⟩
section
variable {L n:Nat} {u:World} {A:Int} {s:ByteArray}
theorem Z1k (h:Kp L u n):Calls Tryz.prog 10 #[.pointer (some ⟨L,0,none⟩),.agg #[.int .i64 4,.int .i64 A,.string s]] u (Zet L n u):=by
 obtain⟨vb,vp,vk,vc,vy,vr,vd,bs,ys,rs,ds,Fb,Fy,Fr,Fd,H,⟨pp,mp,cp,rfl⟩,⟨tk,rfl⟩,⟨ik,rfl⟩,hl⟩:=h;have HK:=Zaa H;have HL:=Zaa hl;have hL:=H.blk.lt;have hc:=(H.blk.alloc (.cells #[.int .i64 4,.int .i64 A,.string s] 46)).cell 3;have hs:=(H.blk.alloc (.cells #[.int .i64 4,.int .i64 A,.string s] 46)).soft;clear H hl;go_enter Tryz.func10,Tryz.ntmps10
 go_wp2_with fail
 refine⟨rfl,_,(by simp[results,Tryz.results10,go_sem];try rfl),?_⟩;obtain⟨l1,l2,l3,l4,l5,l6⟩:=HL.out;exact Kp.mk ((HK.out.set 3 _ rfl).up _) (((Yct L u).setCell lr _).alloc (by simp;omega) _) ⟨_,_,_,rfl⟩ ⟨_,rfl⟩ ⟨_,rfl⟩ (by omega) (by omega) (by omega) (by omega) l5 l6
theorem Z6e (h:Kp L u n):Calls Tryz.prog 10 #[.pointer (some ⟨L,0,none⟩),.agg #[.int .i64 3,.int .i64 A,.string s]] u (Zet L n u):=by
 obtain⟨vb,vp,vk,vc,vy,vr,vd,bs,ys,rs,ds,Fb,Fy,Fr,Fd,H,⟨pp,mp,cp,rfl⟩,⟨tk,rfl⟩,⟨ik,rfl⟩,hl⟩:=h;have HK:=Zaa H;have HL:=Zaa hl;have hL:=H.blk.lt;have hc:=(H.blk.alloc (.cells #[.int .i64 3,.int .i64 A,.string s] 46)).cell 2;have hs:=(H.blk.alloc (.cells #[.int .i64 3,.int .i64 A,.string s] 46)).soft;clear H hl;go_enter Tryz.func10,Tryz.ntmps10
 go_wp2_with fail
 all_goals
  refine⟨rfl,_,(by simp[results,Tryz.results10,go_sem];try rfl),?_⟩;obtain⟨l1,l2,l3,l4,l5,l6⟩:=HL.out;first
  | exact Kp.mk (HK.out.up _) ((Yct L u).alloc (by omega) _) ⟨_,_,_,rfl⟩ ⟨_,rfl⟩ ⟨_,rfl⟩ (by omega) (by omega) (by omega) (by omega) l5 l6
  | exact Kp.mk ((HK.out.set 2 _ rfl).up _) (((Yct L u).setCell lr _).alloc (by simp;omega) _) ⟨_,_,_,rfl⟩ ⟨_,rfl⟩ ⟨_,rfl⟩ (by omega) (by omega) (by omega) (by omega) l5 l6
theorem Z09 (h:Kp L u n){k:Int}(h1:k≠1)(h2:k≠2)(h3:k≠3)(h4:k≠4)(h5:k≠5)(h6:k≠6)(h7:k≠7):Calls Tryz.prog 10 #[.pointer (some ⟨L,0,none⟩),.agg #[.int .i64 k,.int .i64 A,.string s]] u (Zet L n u):=by
 obtain⟨vb,vp,vk,vc,vy,vr,vd,bs,ys,rs,ds,Fb,Fy,Fr,Fd,H,⟨pp,mp,cp,rfl⟩,⟨tk,rfl⟩,⟨ik,rfl⟩,hl⟩:=h;have HK:=Zaa H;have HL:=Zaa hl;have hL:=H.blk.lt;clear H hl;go_enter Tryz.func10,Tryz.ntmps10
 go_wp2_with fail
 refine⟨rfl,_,(by simp[results,Tryz.results10,go_sem];try rfl),?_⟩;obtain⟨l1,l2,l3,l4,l5,l6⟩:=HL.out;exact Kp.mk (HK.out.up _) ((Yct L u).alloc (by omega) _) ⟨_,_,_,rfl⟩ ⟨_,rfl⟩ ⟨_,rfl⟩ (by omega) (by omega) (by omega) (by omega) l5 l6
theorem Z05 (h:Kp L u n)(hn:n < 65536)(hss:s.size<=65536):Calls Tryz.prog 10 #[.pointer (some ⟨L,0,none⟩),.agg #[.int .i64 5,.int .i64 A,.string s]] u (Zet L n u):=by
 obtain⟨vb,vp,vk,vc,vy,vr,vd,bs,ys,rs,ds,Fb,Fy,Fr,Fd,H,⟨pp,mp,cp,rfl⟩,⟨tk,rfl⟩,⟨ik,rfl⟩,hl⟩:=h;obtain⟨pr,cr,rfl⟩:=H.ry.form;have HK:=Zaa H;have HL:=Zaa hl;have hL:=H.blk.lt;obtain⟨U,hU⟩: ∃ U,Box (u.alloc (.cells #[.int .i64 5,.int .i64 A,.string s] 46)=U):=⟨_,⟨rfl⟩⟩;have hN:=Blk.new u #[.int .i64 5,.int .i64 A,.string s] 46;have hBU:Box (Below u.heap.size u U):=⟨hU.out▸(Yct _ u).alloc lr _⟩;have hsU:Box (U.heap.size=u.heap.size+1):=⟨by rw[<- hU.out];simp⟩;rw[hU.out]at hN;have KU:=Zaa (H.later hBU.out);have hS0:U.drew.cell? ⟨L,4,none⟩=some (.slice pr ys.length cr)/\U.drew.cell? ⟨u.heap.size,0,none⟩=some (.int .i64 5)/\U.drew.cell? ⟨u.heap.size,1,none⟩=some (.int .i64 A)/\U.drew.cell? ⟨u.heap.size,2,none⟩=some (.string s):=⟨KU.out.blk.cell 4,hN.three.1,hN.three.2.1,hN.three.2.2.1⟩;have HN:=Zaa hN;clear H hl hN;go_enter Tryz.func10,Tryz.ntmps10
 go_wp2_with fail
 rw[hU.out];refine Zaq 11 (fun v=>v.cell? ⟨L,4,none⟩=some (.slice pr ys.length cr)/\v.cell? ⟨u.heap.size,0,none⟩=some (.int .i64 5)/\v.cell? ⟨u.heap.size,1,none⟩=some (.int .i64 A)/\v.cell? ⟨u.heap.size,2,none⟩=some (.string s)) (by kernel_rfl) ?_;refine tz 0 (.pointer (some ⟨L,0,none⟩)) hS0 (hy:=fun _ _=>by go_simp) (h:=?_);try simp only[zz]
 refine tz 1 (.pointer (some ⟨L,0,none⟩)) hS0 (hy:=fun _ _=>by go_simp) (h:=?_);try simp only[zz]
 refine tz 2 (.pointer (some ⟨L,0,none⟩)) hS0 (hy:=fun _ _=>by go_simp) (h:=?_);try simp only[zz]
 refine tz 3 (.pointer (some ⟨L,4,none⟩)) hS0 (hy:=fun _ _=>by go_simp) (h:=?_);try simp only[zz]
 refine tz 4 (.slice pr ys.length cr) hS0 (hy:=fun _ ⟨s0,s1,s2,s3⟩=>by go_simp) (h:=?_);try simp only[zz]
 refine tz 5 (.pointer (some ⟨u.heap.size,2,none⟩)) hS0 (hy:=fun _ _=>by go_simp) (h:=?_);try simp only[zz]
 refine tz 6 (.string s) hS0 (hy:=fun _ ⟨s0,s1,s2,s3⟩=>by go_simp) (h:=?_);try simp only[zz]
 refine rz 7 (h:=fun K' hK'=>?_);go_simp;obtain⟨W,hW⟩: ∃ W,Box (U.alloc (.cells #[.string s] 9)=W):=⟨_,⟨rfl⟩⟩;rw[hW.out];have hBW:Below U.heap.size U W:=hW.out▸(Yct _ U).alloc lr _;have hsW:Box (W.heap.size=U.heap.size+1):=⟨by rw[<- hW.out];simp⟩;have NW:W.heap[U.heap.size]?=some (.cells #[.string s] 9):=hW.out▸Zas _ _;have KW:=Zaa (KU.out.later hBW);have HW:=Zaa (HN.out.of (hBW.block _ HN.out.lt));refine hK'.out _ _ ⟨KW.out.blk.cell 4,HW.out.three.1,HW.out.three.2.1,HW.out.three.2.2.1⟩ ?_;try simp only[zz]
 refine rz 8 (h:=fun K' hK'=>?_);refine Zdr Zr3 rfl (.tmp 78) (.tmp 81) rfl Zjx.stable (fun _ _ _ _ h=>Zjx.one h) (L+1) (.slice pr ys.length cr) ys Fy rfl (KW.out.ry:Zag _ _ _ W.drew _ _ _) U.heap.size #[.string s] 9 (0,0) s [] rfl NW rfl ⟨rfl,rfl⟩ (by have:=HL.out;omega) (by show L+1<=W.heap.size;have:=hsU.out;have:=hsW.out;omega) (KW.out.ny.later lr lr) (Za9.nil _ _) (fun _ _ h=>by cases h) ?_;intro g cap w1 F' happ;have hse:=happ.size;have hsm:=fun k (h:k < W.heap.size) hf=>happ.same k h hf;have KL:=Zaa (KW.out.blk.of (w':=w1) (hsm L KW.out.blk.lt fun hf=>by have:=KW.out.ny.ge L hf;omega));have HX:=Zaa (HW.out.of (w':=w1) (hsm _ HW.out.lt fun hf=>by have:=HK.out.ny.lt _ hf;omega));have hS1:w1.cell? ⟨L,4,none⟩=some (.slice pr ys.length cr)/\w1.cell? ⟨u.heap.size,0,none⟩=some (.int .i64 5)/\w1.cell? ⟨u.heap.size,1,none⟩=some (.int .i64 A)/\w1.cell? ⟨u.heap.size,2,none⟩=some (.string s):=⟨KL.out.cell 4,HX.out.three.1,HX.out.three.2.1,HX.out.three.2.2.1⟩;have ks:=KL.out.soft;have FIN:=Zaa (HK.out.appY (hBU.out.trans (hBW.mono hBU.out.size)).drew (fun _ h=>by cases h) happ);refine hK'.out _ _ hS1 ?_;try simp only[zz]
 refine rz 9 (h:=fun K' hK'=>?_);go_simp;refine hK'.out _ _ hS1 ?_;try simp only[zz]
 refine rz 10 (h:=fun K' hK'=>?_);go_simp;refine hK'.out _ _ hS1 ?_;try simp only[zz]
 have c1:=hS1.1;refine rzl (h:=fun K' hK'=>?_);go_simp;refine hK'.out _ _ ?_;try simp only[zz]
 refine dz (h:=?_);clear happ ks c1 hS0 hS1;go_wp2_with fail
 refine⟨rfl,_,(by simp[results,Tryz.results10,go_sem];try rfl),?_⟩;obtain⟨l1,l2,l3,l4,l5,l6⟩:=HL.out;exact Kp.mk FIN.out.1 FIN.out.2 ⟨_,_,_,rfl⟩ ⟨_,rfl⟩ ⟨_,rfl⟩ (by omega) (by simp;omega) (by omega) (by omega) l5 fun y hy=>by
  rcases Yc2.1 hy with hy | hy
  ·exact l6 y hy
  ·obtain rfl:=Ydt.1 hy;exact hss
end
end Go.P
namespace Go.P
section
variable {L n:Nat} {u:World} {A:Int} {s:ByteArray}
theorem Zvz (h:Kp L u n)(hn:n < 65536):Calls Tryz.prog 10 #[.pointer (some ⟨L,0,none⟩),.agg #[.int .i64 6,.int .i64 A,.string s]] u (Zet L n u):=by
 obtain⟨vb,vp,vk,vc,vy,vr,vd,bs,ys,rs,ds,Fb,Fy,Fr,Fd,H,⟨pp,mp,cp,rfl⟩,⟨tk,rfl⟩,⟨ik,rfl⟩,hl⟩:=h;obtain⟨pr,cr,rfl⟩:=H.rr.form;have HK:=Zaa H;have HL:=Zaa hl;have hL:=H.blk.lt;obtain⟨U,hU⟩: ∃ U,Box (u.alloc (.cells #[.int .i64 6,.int .i64 A,.string s] 46)=U):=⟨_,⟨rfl⟩⟩;have hN:=Blk.new u #[.int .i64 6,.int .i64 A,.string s] 46;have hBU:Box (Below u.heap.size u U):=⟨hU.out▸(Yct _ u).alloc lr _⟩;have hsU:Box (U.heap.size=u.heap.size+1):=⟨by rw[<- hU.out];simp⟩;rw[hU.out]at hN;have KU:=Zaa (H.later hBU.out);have hS0:U.drew.cell? ⟨L,5,none⟩=some (.slice pr rs.length cr)/\U.drew.cell? ⟨u.heap.size,0,none⟩=some (.int .i64 6)/\U.drew.cell? ⟨u.heap.size,1,none⟩=some (.int .i64 A)/\U.drew.cell? ⟨u.heap.size,2,none⟩=some (.string s):=⟨KU.out.blk.cell 5,hN.three.1,hN.three.2.1,hN.three.2.2.1⟩;have HN:=Zaa hN;clear H hl hN;go_enter Tryz.func10,Tryz.ntmps10
 go_wp2_with fail
 rw[hU.out];refine Zaq 11 (fun v=>v.cell? ⟨L,5,none⟩=some (.slice pr rs.length cr)/\v.cell? ⟨u.heap.size,0,none⟩=some (.int .i64 6)/\v.cell? ⟨u.heap.size,1,none⟩=some (.int .i64 A)/\v.cell? ⟨u.heap.size,2,none⟩=some (.string s)) (by kernel_rfl) ?_;refine tz 0 (.pointer (some ⟨L,0,none⟩)) hS0 (hy:=fun _ _=>by go_simp) (h:=?_);try simp only[zz]
 refine tz 1 (.pointer (some ⟨L,0,none⟩)) hS0 (hy:=fun _ _=>by go_simp) (h:=?_);try simp only[zz]
 refine tz 2 (.pointer (some ⟨L,0,none⟩)) hS0 (hy:=fun _ _=>by go_simp) (h:=?_);try simp only[zz]
 refine tz 3 (.pointer (some ⟨L,5,none⟩)) hS0 (hy:=fun _ _=>by go_simp) (h:=?_);try simp only[zz]
 refine tz 4 (.slice pr rs.length cr) hS0 (hy:=fun _ ⟨s0,s1,s2,s3⟩=>by go_simp) (h:=?_);try simp only[zz]
 refine tz 5 (.pointer (some ⟨u.heap.size,2,none⟩)) hS0 (hy:=fun _ _=>by go_simp) (h:=?_);try simp only[zz]
 refine tz 6 (.string s) hS0 (hy:=fun _ ⟨s0,s1,s2,s3⟩=>by go_simp) (h:=?_);try simp only[zz]
 refine rz 7 (h:=fun K' hK'=>?_);go_simp;obtain⟨W,hW⟩: ∃ W,Box (U.alloc (.cells #[.string s] 9)=W):=⟨_,⟨rfl⟩⟩;rw[hW.out];have hBW:Below U.heap.size U W:=hW.out▸(Yct _ U).alloc lr _;have hsW:Box (W.heap.size=U.heap.size+1):=⟨by rw[<- hW.out];simp⟩;have NW:W.heap[U.heap.size]?=some (.cells #[.string s] 9):=hW.out▸Zas _ _;have KW:=Zaa (KU.out.later hBW);have HW:=Zaa (HN.out.of (hBW.block _ HN.out.lt));refine hK'.out _ _ ⟨KW.out.blk.cell 5,HW.out.three.1,HW.out.three.2.1,HW.out.three.2.2.1⟩ ?_;try simp only[zz]
 refine rz 8 (h:=fun K' hK'=>?_);refine Zdr Zr3 rfl (.tmp 91) (.tmp 94) rfl Zjx.stable (fun _ _ _ _ h=>Zjx.one h) (L+1) (.slice pr rs.length cr) rs Fr rfl (KW.out.rr:Zag _ _ _ W.drew _ _ _) U.heap.size #[.string s] 9 (0,0) s [] rfl NW rfl ⟨rfl,rfl⟩ (by have:=HL.out;omega) (by show L+1<=W.heap.size;have:=hsU.out;have:=hsW.out;omega) (KW.out.nr.later lr lr) (Za9.nil _ _) (fun _ _ h=>by cases h) ?_;intro g cap w1 F' happ;have hse:=happ.size;have hsm:=fun k (h:k < W.heap.size) hf=>happ.same k h hf;have KL:=Zaa (KW.out.blk.of (w':=w1) (hsm L KW.out.blk.lt fun hf=>by have:=KW.out.nr.ge L hf;omega));have HX:=Zaa (HW.out.of (w':=w1) (hsm _ HW.out.lt fun hf=>by have:=HK.out.nr.lt _ hf;omega));have hS1:w1.cell? ⟨L,5,none⟩=some (.slice pr rs.length cr)/\w1.cell? ⟨u.heap.size,0,none⟩=some (.int .i64 6)/\w1.cell? ⟨u.heap.size,1,none⟩=some (.int .i64 A)/\w1.cell? ⟨u.heap.size,2,none⟩=some (.string s):=⟨KL.out.cell 5,HX.out.three.1,HX.out.three.2.1,HX.out.three.2.2.1⟩;have ks:=KL.out.soft;have FIN:=Zaa (HK.out.appR (hBU.out.trans (hBW.mono hBU.out.size)).drew (fun _ h=>by cases h) happ);refine hK'.out _ _ hS1 ?_;try simp only[zz]
 refine rz 9 (h:=fun K' hK'=>?_);go_simp;refine hK'.out _ _ hS1 ?_;try simp only[zz]
 refine rz 10 (h:=fun K' hK'=>?_);go_simp;refine hK'.out _ _ hS1 ?_;try simp only[zz]
 have c1:=hS1.1;refine rzl (h:=fun K' hK'=>?_);go_simp;refine hK'.out _ _ ?_;try simp only[zz]
 refine dz (h:=?_);clear happ ks c1 hS0 hS1;go_wp2_with fail
 refine⟨rfl,_,(by simp[results,Tryz.results10,go_sem];try rfl),?_⟩;obtain⟨l1,l2,l3,l4,l5,l6⟩:=HL.out;exact Kp.mk FIN.out.1 FIN.out.2 ⟨_,_,_,rfl⟩ ⟨_,rfl⟩ ⟨_,rfl⟩ (by omega) (by omega) (by simp;omega) (by omega) l5 l6
theorem Z1u (h:Kp L u n)(hn:n < 65536):Calls Tryz.prog 10 #[.pointer (some ⟨L,0,none⟩),.agg #[.int .i64 7,.int .i64 A,.string s]] u (Zet L n u):=by
 obtain⟨vb,vp,vk,vc,vy,vr,vd,bs,ys,rs,ds,Fb,Fy,Fr,Fd,H,⟨pp,mp,cp,rfl⟩,⟨tk,rfl⟩,⟨ik,rfl⟩,hl⟩:=h;obtain⟨pr,cr,rfl⟩:=H.rd.form;have HK:=Zaa H;have HL:=Zaa hl;have hL:=H.blk.lt;obtain⟨U,hU⟩: ∃ U,Box (u.alloc (.cells #[.int .i64 7,.int .i64 A,.string s] 46)=U):=⟨_,⟨rfl⟩⟩;have hN:=Blk.new u #[.int .i64 7,.int .i64 A,.string s] 46;have hBU:Box (Below u.heap.size u U):=⟨hU.out▸(Yct _ u).alloc lr _⟩;have hsU:Box (U.heap.size=u.heap.size+1):=⟨by rw[<- hU.out];simp⟩;rw[hU.out]at hN;have KU:=Zaa (H.later hBU.out);have hS0:U.drew.cell? ⟨L,6,none⟩=some (.slice pr ds.length cr)/\U.drew.cell? ⟨u.heap.size,0,none⟩=some (.int .i64 7)/\U.drew.cell? ⟨u.heap.size,1,none⟩=some (.int .i64 A)/\U.drew.cell? ⟨u.heap.size,2,none⟩=some (.string s):=⟨KU.out.blk.cell 6,hN.three.1,hN.three.2.1,hN.three.2.2.1⟩;have HN:=Zaa hN;clear H hl hN;go_enter Tryz.func10,Tryz.ntmps10
 go_wp2_with fail
 rw[hU.out];refine Zaq 10 (fun v=>v.cell? ⟨L,6,none⟩=some (.slice pr ds.length cr)/\v.cell? ⟨u.heap.size,0,none⟩=some (.int .i64 7)/\v.cell? ⟨u.heap.size,1,none⟩=some (.int .i64 A)/\v.cell? ⟨u.heap.size,2,none⟩=some (.string s)) (by kernel_rfl) ?_;refine tz 0 (.pointer (some ⟨L,0,none⟩)) hS0 (hy:=fun _ _=>by go_simp) (h:=?_);try simp only[zz]
 refine tz 1 (.pointer (some ⟨L,0,none⟩)) hS0 (hy:=fun _ _=>by go_simp) (h:=?_);try simp only[zz]
 refine tz 2 (.pointer (some ⟨L,0,none⟩)) hS0 (hy:=fun _ _=>by go_simp) (h:=?_);try simp only[zz]
 refine tz 3 (.pointer (some ⟨L,6,none⟩)) hS0 (hy:=fun _ _=>by go_simp) (h:=?_);try simp only[zz]
 refine tz 4 (.slice pr ds.length cr) hS0 (hy:=fun _ ⟨s0,s1,s2,s3⟩=>by go_simp) (h:=?_);try simp only[zz]
 refine tz 5 (.agg #[.int .i64 7,.int .i64 A,.string s]) hS0 (hy:=fun _ ⟨s0,s1,s2,s3⟩=>by go_simp) (h:=?_);try simp only[zz]
 refine rz 6 (h:=fun K' hK'=>?_);go_simp;obtain⟨W,hW⟩: ∃ W,Box (U.alloc (.cells #[.int .i64 7,.int .i64 A,.string s] 46)=W):=⟨_,⟨rfl⟩⟩;rw[hW.out];have hBW:Below U.heap.size U W:=hW.out▸(Yct _ U).alloc lr _;have hsW:Box (W.heap.size=U.heap.size+1):=⟨by rw[<- hW.out];simp⟩;have NW:W.heap[U.heap.size]?=some (.cells #[.int .i64 7,.int .i64 A,.string s] 46):=hW.out▸Zas _ _;have KW:=Zaa (KU.out.later hBW);have HW:=Zaa (HN.out.of (hBW.block _ HN.out.lt));refine hK'.out _ _ ⟨KW.out.blk.cell 6,HW.out.three.1,HW.out.three.2.1,HW.out.three.2.2.1⟩ ?_;try simp only[zz]
 refine rz 7 (h:=fun K' hK'=>?_);refine Zdr Z9e rfl (.tmp 104) (.tmp 106) rfl OpO.stable (fun _ _ _ _ h=>OpO.one h) (L+1) (.slice pr ds.length cr) ds Fd rfl (KW.out.rd:Zag _ _ _ W.drew _ _ _) U.heap.size #[.int .i64 7,.int .i64 A,.string s] 46 (0,0) ((7:Int),A,s) [] rfl NW rfl ⟨rfl,rfl⟩ (by have:=HL.out;omega) (by show L+1<=W.heap.size;have:=hsU.out;have:=hsW.out;omega) (KW.out.nd.later lr lr) (Za9.nil _ _) (fun _ _ h=>by cases h) ?_;intro g cap w1 F' happ;have hse:=happ.size;have hsm:=fun k (h:k < W.heap.size) hf=>happ.same k h hf;have KL:=Zaa (KW.out.blk.of (w':=w1) (hsm L KW.out.blk.lt fun hf=>by have:=KW.out.nd.ge L hf;omega));have HX:=Zaa (HW.out.of (w':=w1) (hsm _ HW.out.lt fun hf=>by have:=HK.out.nd.lt _ hf;omega));have hS1:w1.cell? ⟨L,6,none⟩=some (.slice pr ds.length cr)/\w1.cell? ⟨u.heap.size,0,none⟩=some (.int .i64 7)/\w1.cell? ⟨u.heap.size,1,none⟩=some (.int .i64 A)/\w1.cell? ⟨u.heap.size,2,none⟩=some (.string s):=⟨KL.out.cell 6,HX.out.three.1,HX.out.three.2.1,HX.out.three.2.2.1⟩;have ks:=KL.out.soft;have FIN:=Zaa (HK.out.appD (hBU.out.trans (hBW.mono hBU.out.size)).drew (fun _ h=>by cases h) happ);refine hK'.out _ _ hS1 ?_;try simp only[zz]
 refine rz 8 (h:=fun K' hK'=>?_);go_simp;refine hK'.out _ _ hS1 ?_;try simp only[zz]
 refine rz 9 (h:=fun K' hK'=>?_);go_simp;refine hK'.out _ _ hS1 ?_;try simp only[zz]
 have c1:=hS1.1;refine rzl (h:=fun K' hK'=>?_);go_simp;refine hK'.out _ _ ?_;try simp only[zz]
 refine dz (h:=?_);clear happ ks c1 hS0 hS1;go_wp2_with fail
 refine⟨rfl,_,(by simp[results,Tryz.results10,go_sem];try rfl),?_⟩;obtain⟨l1,l2,l3,l4,l5,l6⟩:=HL.out;exact Kp.mk FIN.out.1 FIN.out.2 ⟨_,_,_,rfl⟩ ⟨_,rfl⟩ ⟨_,rfl⟩ (by omega) (by omega) (by omega) (by simp;omega) l5 l6
end
end Go.P
namespace Go.W
variable {f n m d:Nat}{l r:By}{t:ByteArray}{x:T}{k:Int}{a:A}{b:List A}
def bl (s:ByteArray):By:=s.data.toList
theorem Zb7 (a b:ByteArray):bl (a++b)=bl a++bl b:=by simp[bl]
theorem Zz4 (n:Nat):bl (b1 n)=[UInt8.ofNat n]:=rfl
theorem Z8u (l:By):bl (ba l)=l:=by simp[bl,ba]
theorem Zs7 (s:ByteArray):ba (bl s)=s:=by simp[bl,ba]
theorem Zew (s:ByteArray):(bl s).length=s.size:=Yd7
def Fwd {α:Type} (f:De α) (p:α->ByteArray) (x:α):Prop:= ∀ r,f (bl (p x)++r)= .ok (x,r)
def Bwd {α:Type} (f:De α) (p:α->ByteArray):Prop:= ∀ l x r,f l= .ok (x,r)->l=bl (p x)++r
theorem Zf9 (n:Nat)(h:n < 256):(UInt8.ofNat n).toNat=n:=by simp;omega
theorem Zof (c:UInt8):UInt8.ofNat c.toNat=c:=by simp
theorem Z4u (h:128<=n):Zqx (f+1) n=b1 (n % 128+128)++Zqx f (n / 128):=by rw[Zqx,if_pos h]
theorem Zw2 (h:n < 128):Zqx f n=b1 n:=by cases f with
 | zero=>rfl
 | succ f=>rw[Zqx,if_neg (by omega)]
theorem Z26 (n c m p:Nat):n+c*p+m*(p*128)=n+(c+128*m)*p:=by
 rw[Nat.add_mul,Nat.mul_comm p 128,<- Nat.mul_assoc,Nat.mul_comm m 128,Nat.add_assoc]
theorem Zxt: ∀ (g k n m:Nat) (r:By),k+g=9->m < 2*128 ^ g->(0 < k->0 < m)->Zuw k n (bl (Zqx (g+1) m)++r)= .ok (n+m*128 ^ k,r)
 | 0,k,n,m,r,hk,hm,h0=>by
  have:m < 2:=by simpa using hm
  rw[Zw2 (by omega),Zz4];show Zuw k n (UInt8.ofNat m::r)=_;rw[Zuw,Zf9 m (by omega),if_neg (by omega),if_pos (by omega)]
 | g+1,k,n,m,r,hk,hm,h0=>by
  by_cases h:128<=m
  ·rw[Z4u h,Zb7,Zz4];show Zuw k n (UInt8.ofNat (m % 128+128)::(bl (Zqx (g+1) (m / 128))++r))=_;rw[Zuw,Zf9 _ (by omega),if_neg (by omega),if_neg (by omega),Zxt g (k+1) _ (m / 128) r (by omega) (by rw[Nat.pow_succ]at hm;omega) (fun _=>by omega),Nat.pow_succ,Z26,Nat.add_sub_cancel,Nat.mod_add_div]
  ·rw[Zw2 (by omega),Zz4];show Zuw k n (UInt8.ofNat m::r)=_;rw[Zuw,Zf9 m (by omega),if_neg (by omega),if_pos (by omega)]
theorem Zy4: ∀ (l:By) (g k n v:Nat) (r:By),k+g=9->Zuw k n l= .ok (v,r)-> ∃ m,v=n+m*128 ^ k/\l=bl (Zqx (g+1) m)++r/\(0 < k->0 < m)/\m < 2*128 ^ g
 | [],g,k,n,v,r,hk,h=>by cases h
 | c::l,g,k,n,v,r,hk,h=>by
  have hc:c.toNat < 256:=c.toNat_lt;rw[Zuw]at h;split at h
  ·cases h
  ·rename_i hn;split at h
   ·rename_i hlt;cases h;refine⟨c.toNat,rfl,?_,?_,?_⟩
    ·rw[Zw2 hlt,Zz4,Zof];rfl
    ·intro h;exact Nat.pos_of_ne_zero fun h'=>hn (Or.inr ⟨h,h'⟩)
    ·cases g with
     | zero=>have: ¬ 1 < c.toNat:=fun h'=>hn (Or.inl ⟨by omega,h'⟩);simp;omega
     | succ g=>have:=Nat.one_le_two_pow (n:=0);have:1<=128 ^ g:=Nat.one_le_pow _ _ (by omega);rw[Nat.pow_succ];omega
   ·rename_i hge;cases g with
    | zero=>exact absurd (Or.inl ⟨by omega,by omega⟩) hn
    | succ g=>
     obtain⟨m,rfl,rfl,h0,hb⟩:=Zy4 l g (k+1) _ v r (by omega) h;have hm:=h0 (by omega);refine⟨(c.toNat - 128)+128*m,?_,?_,fun _=>by omega,by rw[Nat.pow_succ];omega⟩
     ·rw[Nat.pow_succ,Z26]
     ·rw[Z4u (f:=g+1) (n:=c.toNat - 128+128*m) (by omega),Zb7,Zz4,show(c.toNat - 128+128*m) % 128+128=c.toNat by omega,show(c.toNat - 128+128*m) / 128=m by omega,Zof];rfl
theorem Zfk (h:n < 18446744073709551616):Fwd Zdm Zfi n:=fun r=>by
 have:=Zxt 9 0 0 n r rfl (by simpa using h) (by omega)
 simpa[Zdm,Zfi]using this
theorem Zhi (l:By)(n:Nat)(r:By)(h:Zdm l= .ok (n,r)):l=bl (Zfi n)++r/\n < 18446744073709551616:=by
 obtain⟨m,rfl,hl,_,hb⟩:=Zy4 l 9 0 0 n r rfl h;simp only[Ydp,Nat.pow_zero,Nat.mul_one];exact⟨hl,by simpa using hb⟩
theorem Zky (l r:By):Zfe l.length (l++r)= .ok (l,r):=by
 unfold Zfe;rw[if_neg (by simp)];simp
theorem Z2d {x:By}(h:Zfe n l= .ok (x,r)):l=x++r/\x.length=n:=by
 unfold Zfe at h;split at h
 ·cases h
 ·cases h;exact⟨by simp,by simp;omega⟩
theorem Zds {α β:Type}{f:De α}{g:α->De β}{y:β}(h:f.then g l= .ok (y,r)): ∃ x s,f l= .ok (x,s)/\g x s= .ok (y,r):=by
 unfold De.then at h;split at h
 ·cases h
 ·rename_i x s hf;exact⟨x,s,hf,h⟩
theorem Zd7 {α β:Type}{f:De α}{g:α->β}{y:β}(h:f.map g l= .ok (y,r)): ∃ x,f l= .ok (x,r)/\g x=y:=by
 unfold De.map at h;split at h
 ·cases h
 ·rename_i x s hf;cases h;exact⟨x,hf,rfl⟩
theorem Zda (h:n < 256):Fwd Zfx b1 n:=fun r=>by
 show Zfx (UInt8.ofNat n::r)=_;rw[Zfx,Zf9 n h]
theorem Zhx (h:Zfx l= .ok (n,r)):l=bl (b1 n)++r/\n < 256:=by
 cases l with
 | nil=>cases h
 | cons c l=>cases h;exact⟨by rw[Zz4,Zof];rfl,c.toNat_lt⟩
theorem Zos (h:t.size < 18446744073709551616):Fwd Zoi Zdk t:=fun r=>by
 unfold Zoi Zdk;rw[Zb7,Yc8,De.map_ok (x:=bl t) (r:=r),Zs7];rw[De.then_ok (Zfk h _),<- Zew,Zky]
theorem Zo9:Bwd Zoi Zdk:=fun l x r h=>by
 obtain⟨b,h1,rfl⟩:=Zd7 h;obtain⟨n,s,h2,h3⟩:=Zds h1;obtain⟨rfl,_⟩:=Zhi _ _ _ h2;obtain⟨rfl,rfl⟩:=Z2d h3;unfold Zdk;rw[Zb7,Z8u,Ze7,Yc8]
theorem Zyy {α:Type}{f:De α}{p:α->ByteArray}: ∀ (xs:List α),(∀ x∈xs,Fwd f p x)-> ∀ r,Ziz f xs.length (bl (cat p xs)++r)= .ok (xs,r)
 | [],_,r=>rfl
 | x::xs,h,r=>by
  show(f.then fun y=>(Ziz f xs.length).map fun r=>y::r) _=_;rw[cat,Zb7,Yc8,De.then_ok (h x (by simp) _),De.map_ok (Zyy xs (fun y hy=>h y (by simp[hy])) r)]
theorem Zyp {α:Type}{f:De α}{p:α->ByteArray}(hf:Bwd f p): ∀ (n:Nat) (l:By) (xs:List α) (r:By),Ziz f n l= .ok (xs,r)->xs.length=n/\l=bl (cat p xs)++r
 | 0,l,xs,r,h=>by cases h;exact⟨rfl,rfl⟩
 | n+1,l,xs,r,h=>by
  obtain⟨x,s,h1,h2⟩:=Zds h;obtain⟨ys,h3,rfl⟩:=Zd7 h2;obtain⟨hl,rfl⟩:=Zyp hf n s ys r h3;exact⟨by simp[hl],by rw[hf _ _ _ h1,cat,Zb7,Yc8]⟩
theorem Zec {α:Type}{f:De α}{p:α->ByteArray}{xs:List α}(h: ∀ x∈xs,Fwd f p x)(hl:xs.length<=m)(hm:m < 18446744073709551616):Fwd (Zbt m f) (Za4 p) xs:=fun r=>by
 unfold Zbt Za4;rw[Zb7,Yc8,De.then_ok (Zfk (by omega) _),if_neg (by omega),Zyy xs h]
theorem Zez {α:Type}{f:De α}{p:α->ByteArray}(hf:Bwd f p)(m:Nat):Bwd (Zbt m f) (Za4 p):=fun l xs r h=>by
 obtain⟨n,s,h1,h2⟩:=Zds h;obtain⟨rfl,_⟩:=Zhi _ _ _ h1;split at h2
 ·cases h2
 ·obtain⟨rfl,rfl⟩:=Zyp hf _ _ _ _ h2;unfold Za4;rw[Zb7,Yc8]
theorem Zht {i:Int}(h:Zk2 i):Zen (Zi9 i)=i/\Zi9 i < 18446744073709551616:=by
 obtain⟨h1,h2⟩:=h;unfold Zen Zi9;by_cases hi:i < 0
 ·rw[if_pos hi,if_neg (by omega)];omega
 ·rw[if_neg hi,if_pos (by omega)];omega
theorem Znl (n:Nat):Zi9 (Zen n)=n:=by
 unfold Zen Zi9;by_cases hi:n % 2=0
 ·rw[if_pos hi,if_neg (by omega)];omega
 ·rw[if_neg hi,if_pos (by omega)];omega
def InT:Nat->T->Prop
 | 0,x=>Zk2 x.i
 | d+1,x=>Zk2 x.i/\ ∀ y∈x.l,InT d y
theorem InT.i (h:InT d x):Zk2 x.i:=by cases d with
 | zero=>exact h
 | succ d=>exact h.1
theorem Zgr {α:Type}{f:α->Int}: ∀ {l:List α},Zax f l=0-> ∀ x∈l,f x=0
 | [],_,x,hx=>by cases hx
 | y::l,h,x,hx=>by
  unfold Zax at h;split at h
  ·rename_i h';exact absurd h h'
  ·rename_i h';rcases List.mem_cons.mp hx with rfl | hx
   ·exact Decidable.not_not.mp h'
   ·exact Zgr h x hx
theorem Zg1 {α:Type}{f:α->Int}: ∀ {l:List α},(∀ x∈l,f x=0)->Zax f l=0
 | [],_=>rfl
 | y::l,h=>by rw[Zax,if_neg (by simp[h y (by simp)]),Zg1 fun x hx=>h x (by simp[hx])]
theorem Zeg {a b:Int}(h:(if a≠0 then a else b)=0):a=0/\b=0:=by
 split at h
 ·rename_i h';exact absurd h h'
 ·rename_i h';exact⟨Decidable.not_not.mp h',h⟩
theorem Zoa (h:Zal d x=0):Zug d x.k x.i x.t x.l.length=0/\ ∀ y∈x.l,Zal (d+1) y=0:=by
 rw[Zkw]at h;exact⟨(Zeg h).1,Zgr (Zeg h).2⟩
theorem Zyd {i:Int}(h:Zug d k i t n=0):Ze9 k i t n=true/\ ¬ (k=1/\0 < d)/\t.size<=64/\n<=6/\ ¬ (k=7/\d=3):=by
 unfold Zug at h;split at h
 ·cases h
 ·rename_i h1;split at h
  ·cases h
  ·rename_i h2;split at h
   ·cases h
   ·rename_i h3;exact⟨by cases hf:Ze9 k i t n with | true=>rfl | false=>exact absurd (Or.inl hf) h1,fun h'=>h1 (Or.inr h'),by omega,by omega,h3⟩
theorem Zqc {i:Int}(h:Ze9 k i t n=true):((k=1\/k=3\/k=4)/\i=0/\n=0)\/((k=2\/k=5)/\t.size=0/\n=0)\/(k=6/\t.size=0/\n=0/\(i=0\/i=1))\/(k=7/\i=0/\t.size=0):=by
 unfold Ze9 Zmn at h;split at h
 ·simp at h;simp[*]
 split at h
 ·simp at h;simp[*]
 split at h
 ·simp at h;simp[*]
 split at h
 ·simp at h;simp[*]
 split at h
 ·simp at h;simp[*]
 split at h
 ·simp at h;simp[*]
 ·cases h
theorem Zg4 (h:t.size=0):t=ByteArray.empty:=by
 rcases t with⟨a⟩
 have:a.size=0:=h
 rw[Array.eq_empty_of_size_eq_zero this];rfl
theorem Zhs (k i:Int)(t:ByteArray)(l:List T):Zd5 (.mk k i t l)=b1 (k % 256).toNat++(if k=2\/k=5 then Zfi (Zi9 i)else if k=6 then b1 (i % 256).toNat else if k=7 then Za4 Zd5 l else Zdk t):=by rw[Zd5,Zyz];rfl
theorem Zom: ∀ (d:Nat) (x:T),d<=3->Zal (3 - d) x=0->InT d x->Fwd (Zfg d) Zd5 x:=by
 intro d;induction d with
 | zero=>
  intro x _ hw hi r;obtain⟨ho,hl⟩:=Zoa hw;obtain⟨hf,h1,h64,h6,h7⟩:=Zyd ho;have hI:=hi.i;obtain⟨k,i,t,l⟩:=x;dsimp only[T.k,T.i,T.t,T.l]at*;rw[Zhs,Zb7,Yc8,Zfg];rcases Zqc hf with⟨hk,rfl,hn⟩ | ⟨hk,ht,hn⟩ | ⟨rfl,ht,hn,hb⟩ | ⟨rfl,rfl,ht⟩
  ·have hl0:l=[]:=Yda hn;subst hl0;rcases hk with rfl | rfl | rfl <;> (rw[De.then_ok (Zda (by decide) _)];simp;rw[De.map_ok (Zos (by omega) r)])
  ·have hl0:l=[]:=Yda hn;have ht0:=Zg4 ht;subst hl0 ht0;rcases hk with rfl | rfl <;> (rw[De.then_ok (Zda (by decide) _)];simp;rw[De.map_ok (Zfk (Zht hI).2 r),(Zht hI).1])
  ·have hl0:l=[]:=Yda hn;have ht0:=Zg4 ht;subst hl0 ht0;rcases hb with rfl | rfl <;> (rw[De.then_ok (Zda (by decide) _)];simp;rw[De.map_ok (Zda (by decide) r)];rfl)
  ·exact absurd ⟨rfl,rfl⟩ h7
 | succ d ih=>
  intro x hd hw hi r;obtain⟨ho,hl⟩:=Zoa hw;obtain⟨hf,h1,h64,h6,h7⟩:=Zyd ho;have hI:=hi.i;have hL:=hi.2;obtain⟨k,i,t,l⟩:=x;dsimp only[T.k,T.i,T.t,T.l]at*;rw[Zhs,Zb7,Yc8,Zfg];rcases Zqc hf with⟨hk,rfl,hn⟩ | ⟨hk,ht,hn⟩ | ⟨rfl,ht,hn,hb⟩ | ⟨rfl,rfl,ht⟩
  ·have hl0:l=[]:=Yda hn;subst hl0;rcases hk with rfl | rfl | rfl <;> (rw[De.then_ok (Zda (by decide) _)];simp;rw[De.map_ok (Zos (by omega) r)])
  ·have hl0:l=[]:=Yda hn;have ht0:=Zg4 ht;subst hl0 ht0;rcases hk with rfl | rfl <;> (rw[De.then_ok (Zda (by decide) _)];simp;rw[De.map_ok (Zfk (Zht hI).2 r),(Zht hI).1])
  ·have hl0:l=[]:=Yda hn;have ht0:=Zg4 ht;subst hl0 ht0;rcases hb with rfl | rfl <;> (rw[De.then_ok (Zda (by decide) _)];simp;rw[De.map_ok (Zda (by decide) r)];rfl)
  ·have ht0:=Zg4 ht;subst ht0;rw[De.then_ok (Zda (by decide) _)];simp;rw[De.map_ok (Zec (fun y hy=>ih y (by omega) (by have:=hl y hy;rwa [show 3 - (d+1)+1=3 - d by omega]at this) (hL y hy)) h6 (by omega) r)]
theorem Zo2: ∀ d,Bwd (Zfg d) Zd5:=by
 intro d;induction d with
 | zero=>
  intro l x r h;rw[Zfg]at h;obtain⟨k,s,h1,h2⟩:=Zds h;obtain⟨rfl,hk⟩:=Zhx h1;split at h2
  ·rename_i hk';obtain⟨n,h3,rfl⟩:=Zd7 h2;obtain⟨rfl,_⟩:=Zhi _ _ _ h3;rw[Zhs,Zb7,Yc8,if_pos (by omega),Znl,show((k:Int) % 256).toNat=k by omega]
  split at h2
  ·rename_i hk';obtain⟨n,h3,rfl⟩:=Zd7 h2;obtain⟨rfl,hn⟩:=Zhx h3;rw[Zhs,Zb7,Yc8,if_neg (by omega),if_pos (by omega),show((k:Int) % 256).toNat=k by omega,show((n:Int) % 256).toNat=n by omega]
  split at h2
  ·cases h2
  split at h2
  ·rename_i hk';obtain⟨n,h3,rfl⟩:=Zd7 h2
   have:=Zo9 _ _ _ h3
   subst this;rw[Zhs,Zb7,Yc8,if_neg (by omega),if_neg (by omega),if_neg (by omega),show((k:Int) % 256).toNat=k by omega]
  ·cases h2
 | succ d ih=>
  intro l x r h;rw[Zfg]at h;obtain⟨k,s,h1,h2⟩:=Zds h;obtain⟨rfl,hk⟩:=Zhx h1;split at h2
  ·rename_i hk';obtain⟨n,h3,rfl⟩:=Zd7 h2;obtain⟨rfl,_⟩:=Zhi _ _ _ h3;rw[Zhs,Zb7,Yc8,if_pos (by omega),Znl,show((k:Int) % 256).toNat=k by omega]
  split at h2
  ·rename_i hk';obtain⟨n,h3,rfl⟩:=Zd7 h2;obtain⟨rfl,hn⟩:=Zhx h3;rw[Zhs,Zb7,Yc8,if_neg (by omega),if_pos (by omega),show((k:Int) % 256).toNat=k by omega,show((n:Int) % 256).toNat=n by omega]
  split at h2
  ·rename_i hk';obtain⟨xs,h3,rfl⟩:=Zd7 h2
   have:=Zez ih 6 _ _ _ h3
   subst this;rw[Zhs,Zb7,Yc8,if_neg (by omega),if_neg (by omega),if_pos (by omega),show((k:Int) % 256).toNat=k by omega]
  split at h2
  ·rename_i hk';obtain⟨n,h3,rfl⟩:=Zd7 h2
   have:=Zo9 _ _ _ h3
   subst this;rw[Zhs,Zb7,Yc8,if_neg (by omega),if_neg (by omega),if_neg (by omega),show((k:Int) % 256).toNat=k by omega]
  ·cases h2
theorem Zn7:Bwd Zpn Zk4:=fun l x r h=>by
 obtain⟨n,s,h1,h2⟩:=Zds h;obtain⟨ts,h3,rfl⟩:=Zd7 h2;rw[Zo9 _ _ _ h1,Zez (Zo2 3) 6 _ _ _ h3];simp only[Zk4,Zb7,Yc8]
theorem Zz7:Bwd Zm7 Zvg:=fun l x r h=>by
 obtain⟨o,s,h1,h2⟩:=Zds h;obtain⟨a,s',h3,h4⟩:=Zds h2;obtain⟨b,h5,rfl⟩:=Zd7 h4;obtain⟨rfl,ho⟩:=Zhx h1;rw[Zo2 3 _ _ _ h3,Zo2 3 _ _ _ h5];simp only[Zvg,Zb7,Yc8];rw[show((o:Int) % 256).toNat=o by omega]
theorem Zty:Bwd Zpg Zb6:=fun l x r h=>by
 obtain⟨n,s,h1,h2⟩:=Zds h;obtain⟨ts,h3,rfl⟩:=Zd7 h2;rw[Zez Zn7 4 _ _ _ h1,Zez Zz7 4 _ _ _ h3];simp only[Zb6,Zb7,Yc8]
theorem Z3n:Bwd Zw3 Zvi:=fun l x r h=>by
 obtain⟨n,s,h1,h2⟩:=Zds h;obtain⟨b,h3,rfl⟩:=Zd7 h2;rw[Zn7 _ _ _ h1,Zty _ _ _ h3];simp only[Zvi,Zb6,Zb7,Yc8]
theorem Z0a:Bwd Zil Zdx:=fun l x r h=>by
 obtain⟨f,s,h1,h2⟩:=Zds h;obtain⟨rs,s',h3,h4⟩:=Zds h2;obtain⟨c,h5,rfl⟩:=Zd7 h4;rw[Zez Zn7 24 _ _ _ h1,Zez Z3n 24 _ _ _ h3,Zez (Zez Zty 4) 24 _ _ _ h5];simp only[Zdx,Zb7,Yc8]
theorem Zzd {x:Bk}(h:Zc2 l= .ok x):Zdx x=ba l/\Zby x=0/\l.length<=4000:=by
 unfold Zc2 at h;split at h
 ·cases h
 ·rename_i hl;split at h
  ·cases h
  ·rename_i y hy;split at h
   ·cases h
   ·rename_i hw;cases h;refine⟨?_,Decidable.not_not.mp hw,by omega⟩;unfold Zc7 at hy;split at hy
    ·cases hy
    ·rename_i y' r' hb;split at hy
     ·rename_i hr;cases hy
      have:=Z0a _ _ _ hb
      rw[hr,List.append_nil]at this;rw[this,Zs7]
     ·cases hy
def InA (a:A):Prop:= ∀ y∈a.terms,InT 3 y
def InG (g:G):Prop:=InT 3 g.a/\InT 3 g.b
def InR (r:R):Prop:=InA r.head/\(∀ a∈r.body,InA a)/\ ∀ g∈r.guards,InG g
def Zz0 (b:Bk):Prop:=(∀ a∈b.facts,InA a)/\(∀ r∈b.rules,InR r)/\ ∀ c∈b.checks,∀ r∈c,InR r
theorem Zg0 {α:Type}{f:α->Int}{l:List α}(h:Zbw f m l=0):l.length<=m/\ ∀ x∈l,f x=0:=by
 unfold Zbw at h;split at h
 ·cases h
 ·exact⟨by omega,Zgr h⟩
theorem Zou (h:Zb9 a=0)(hi:InA a):Fwd Zpn Zk4 a:=fun r=>by
 unfold Zb9 at h;split at h
 ·cases h
 ·rename_i hn;obtain⟨h6,ht⟩:=Zg0 h;have hs:a.name.size<=16:=by
   have:Zcp a.name=true:=by simpa using hn
   unfold Zcp at this;simp at this;exact this.2
  rw[Zk4,Zb7,Yc8,Zpn,De.then_ok (Zos (by omega) _),De.map_ok (Zec (fun y hy=>Zom 3 y (by omega) (ht y hy) (hi y hy)) h6 (by omega) r)]
theorem Zs8 {t:T}(h:Zb1 b t=0):Zal 0 t=0:=(Zeg h).1
theorem Z0d {g:G}(h:Ze5 b g=0)(hi:InG g):Fwd Zm7 Zvg g:=fun r=>by
 unfold Ze5 at h;split at h
 ·cases h
 ·rename_i ho;have h':=Zeg h;rw[Zvg,Zb7,Zb7,Yc8,Yc8,Zm7,De.then_ok (Zda (by omega) _),De.then_ok (Zom 3 g.a (by omega) (Zs8 h'.1) hi.1 _),De.map_ok (Zom 3 g.b (by omega) (Zs8 h'.2) hi.2 _),show(((g.op % 256).toNat:Nat):Int)=g.op by omega]
theorem Z3m {r:R}(h:Za0 r=0):r.body.length<=4/\r.guards.length<=4/\(∀ a∈r.body,Zb9 a=0)/\ ∀ g∈r.guards,Ze5 r.body g=0:=by
 unfold Za0 at h;split at h
 ·cases h
 ·split at h
  ·cases h
  ·rename_i h4;have h':=Zeg h;exact⟨by omega,by omega,Zgr h'.1,Zgr h'.2⟩
theorem Zux {r:R}(h:Za0 r=0)(hi:InR r): ∀ s,Zpg (bl (Zb6 r)++s)= .ok (⟨⟨ByteArray.empty,[]⟩,r.body,r.guards⟩,s):=fun s=>by
 obtain⟨h4,h5,ha,hg⟩:=Z3m h;rw[Zb6,Zb7,Yc8,Zpg,De.then_ok (Zec (fun y hy=>Zou (ha y hy) (hi.2.1 y hy)) h4 (by omega) _),De.map_ok (Zec (fun y hy=>Z0d (hg y hy) (hi.2.2 y hy)) h5 (by omega) _)]
theorem Z4v {r:R}(h:Zcr r=0)(hi:InR r):Fwd Zw3 Zvi r:=fun s=>by
 have h1:=Zeg h;have h2:=Zeg h1.2;rw[Zvi,Zb7,Yc8,Zw3,De.then_ok (Zou h1.1 hi.1 _),De.map_ok (Zux h2.1 hi s)]
theorem Z2t {r:R}(h:Zcj r=0)(hi:InR r):Fwd Zpg Zb6 r:=fun s=>by
 unfold Zcj at h;split at h
 ·cases h
 ·rename_i hn;rw[Zux h hi];obtain⟨⟨n,ts⟩,b,g⟩:=r;dsimp only at hn⊢;rw[Zg4 (t:=n) (by omega),Yda (l:=ts) (by omega)]
theorem Znp {l:List R}(h:Zat l=0):l.length<=4/\ ∀ r∈l,Zcj r=0:=by
 unfold Zat at h;split at h
 ·cases h
 ·exact Zg0 h
theorem Z3o (h:Zc5 a=0):Zb9 a=0:=(Zeg h).1
theorem Z03 {b:Bk}(h:Zby b=0)(hi:Zz0 b):Fwd Zil Zdx b:=fun s=>by
 have h1:=Zeg h;have h2:=Zeg h1.2;obtain⟨n1,q1⟩:=Zg0 h1.1;obtain⟨n2,q2⟩:=Zg0 h2.1;obtain⟨n3,q3⟩:=Zg0 h2.2;rw[Zdx,Zb7,Zb7,Yc8,Yc8,Zil,
  De.then_ok (Zec (fun y hy=>Zou (Z3o (q1 y hy)) (hi.1 y hy)) n1 (by omega) _),
  De.then_ok (Zec (fun y hy=>Z4v (q2 y hy) (hi.2.1 y hy)) n2 (by omega) _),
  De.map_ok (Zec (f:=Zq8) (fun y hy=>Zec (fun z hz=>Z2t ((Znp (q3 y hy)).2 z hz) (hi.2.2 y hy z hz)) (Znp (q3 y hy)).1 (by omega)) n3 (by omega) s)]
theorem Zre {b:Bk}(h:Zby b=0)(hi:Zz0 b)(hs:(Zdx b).size<=4000):Zc2 (bl (Zdx b))= .ok b:=by
 unfold Zc2;rw[if_neg (by rw[Zew];omega)]
 have:=Z03 h hi []
 rw[List.append_nil]at this;simp only[Zc7,this,if_pos,h];rfl
end Go.W
namespace Go.W
variable {l:List UInt8}{t:ByteArray}{x y:Tk}{p q:Nat}{u:Unit}
theorem Z9q {y:Nat}(hy:Lib.validRune (y:Int)=true)(r:List UInt8):Lib.decodeL (Lib.encodeRune (y:Int)++r)=(y,(Lib.encodeRune (y:Int)).length):=by
 have hv:((0:Int)<=y/\(y:Int) < 0xD800)\/((0xDFFF:Int) < y/\(y:Int)<=0x10FFFF):=by simpa[Lib.validRune]using hy
 have b (x:Int) (h0:0<=x) (h1:x < 256):(x.toNat.toUInt8).toNat=x.toNat:=by simp;omega
 rw[Lib.decodeL_N];unfold Lib.encodeRune;by_cases h1:y<=127
 ·rw[Lib.encodeRuneZ_one (by omega) (by omega)];simp only[List.map_cons,List.map_nil,Ydd,Ydg,List.getD_cons_zero,Yc7,Ydb];rw[b _ (by omega) (by omega),Lib.decodeN,if_pos (by omega)];simp
 by_cases h2:y<=2047
 ·rw[Lib.encodeRuneZ_two (by omega) (by omega)];simp only[List.map_cons,List.map_nil,Ydd,Ydg,List.getD_cons_zero,List.getD_cons_succ,Yc7,Ydb];rw[b _ (by omega) (by omega),b _ (by omega) (by omega),Lib.decodeN,if_neg (by omega),if_pos (by omega),if_pos (by omega)];exact Prod.ext (by dsimp only;omega) rfl
 by_cases h3:y<=65535
 ·rw[Lib.encodeRuneZ_three (by omega)];simp only[List.map_cons,List.map_nil,Ydd,Ydg,List.getD_cons_zero,List.getD_cons_succ,Yc7,Ydb];rw[b _ (by omega) (by omega),b _ (by omega) (by omega),b _ (by omega) (by omega),Lib.decodeN,if_neg (by omega),if_neg (by omega),if_pos (by omega),if_pos (by omega)];exact Prod.ext (by dsimp only;omega) rfl
 ·rw[Lib.encodeRuneZ_four (by omega) (by omega)];simp only[List.map_cons,List.map_nil,Ydd,Ydg,List.getD_cons_zero,List.getD_cons_succ,Yc7,Ydb];rw[b _ (by omega) (by omega),b _ (by omega) (by omega),b _ (by omega) (by omega),b _ (by omega) (by omega),Lib.decodeN,if_neg (by omega),if_neg (by omega),if_neg (by omega),if_pos (by omega),if_pos (by omega)];exact Prod.ext (by dsimp only;omega) rfl
theorem Z57 (y:Nat): ¬ (y=65533/\(Lib.encodeRune (y:Int)).length=1):=by
 rintro⟨rfl,h⟩;revert h
 decide
def Znc (l:List UInt8):Prop:= ∃ rs:List Nat,(∀ y∈rs,Lib.validRune (y:Int)=true)/\l=rs.flatMap fun y:Nat=>Lib.encodeRune (y:Int)
theorem Znc.snoc (h:Znc l){y:Nat}(hy:Lib.validRune (y:Int)=true):Znc (l++Lib.encodeRune (y:Int)):=by
 obtain⟨rs,h1,rfl⟩:=h;refine⟨rs++[y],fun z hz=>?_,by simp⟩;rcases List.mem_append.mp hz with hz | hz
 ·exact h1 z hz
 ·rw[List.mem_singleton.mp hz];exact hy
theorem Znx: ∀ (rs:List Nat) (n:Nat),(∀ y∈rs,Lib.validRune (y:Int)=true)->Lib.validGoD n (rs.flatMap fun y:Nat=>Lib.encodeRune (y:Int))=true
 | rs,0,_=>rfl
 | [],n+1,_=>by rw[List.flatMap_nil,Lib.validGoD,if_pos rfl]
 | y::rs,n+1,h=>by
  rw[List.flatMap_cons,Lib.validGoD];split
  ·rfl
  ·rw[Z9q (h y (by simp))];dsimp only;rw[if_neg (Z57 y),List.drop_left];exact Znx rs n fun z hz=>h z (by simp[hz])
theorem Znc.valid (h:Znc l):Lib.validD l=true:=by
 obtain⟨rs,h1,rfl⟩:=h;exact Znx rs _ h1
theorem Zr1 (n b0 b1 b2 b3:Nat)(h0:b0 < 256):Lib.validRune (((Lib.decodeN n b0 b1 b2 b3).1:Nat):Int)=true:=by
 unfold Lib.decodeN Lib.validRune
 repeat' split
 all_goals (simp only[decide_eq_true_eq];omega)
theorem Zps (s:ByteArray):Lib.validRune (((Lib.decodeGo s).1:Nat):Int)=true:=by
 unfold Lib.decodeGo;split
 ·decide
 ·rw[Lib.decode_at];exact Zr1 _ _ _ _ _ (UInt8.toNat_lt _)
theorem Z0n {y:Nat}{x':Tk}(h:Zy9 t x p= .ok (y,x',q)):Lib.validRune (y:Int)=true:=by
 unfold Zy9 at h;split at h
 ·rename_i z hz;cases h;have hm:=List.mem_of_find?_eq_some hz
  have: ∀ z∈Zer,Lib.validRune (z.2:Int)=true:=by decide
  exact this z hm
 ·split at h
  ·unfold Zk5 at h;split at h
   ·cases h
   ·split at h
    ·rename_i hv;cases h;exact hv
    ·cases h
  ·cases h
theorem Zlg: ∀ {f p:Nat} {acc s:List UInt8} {q:Nat},Znc acc->Zl1 t x f p acc= .ok (s,q)->Znc s
 | 0,p,acc,s,q,_,h=>by cases h
 | f+1,p,acc,s,q,ha,h=>by
  rw[Zl1]at h;split at h
  ·cases h;exact ha
  split at h
  ·cases h
  split at h
  ·split at h
   ·cases h
   ·rename_i he;exact Zlg (ha.snoc (Z0n he)) h
  ·split at h
   ·cases h
   ·exact Zlg (ha.snoc (Zps _)) h
theorem Zuz {bs:List Nat}{ok:Nat->Bool}: ∀ {f p i:Nat},p<=i->i < Zj3 bs ok f p->ok (bs.getD i 0)=true
 | 0,p,i,h,h'=>by rw[Zj3]at h';omega
 | f+1,p,i,h,h'=>by
  rw[Zj3]at h';split at h'
  ·rename_i hc;rcases Nat.eq_or_lt_of_le h with rfl | hlt
   ·exact hc.2
   ·exact Zuz hlt h'
  ·omega
def TkR (x:Tk):Prop:=(Zgs x.text=true->Zcp x.text=true)/\(x.k=0\/x.k≠6/\x.k≠7/\Ze9 x.k x.i x.s 0=true/\x.s.size<=64)
theorem Zol (q:Nat):TkR (Zfm q):=⟨fun h=>absurd (show Zgs ⟨#[]⟩=true from h) (by decide),Or.inl rfl⟩
theorem Zus (hx:TkR x)(h:Zg3 t x p= .ok (u,y,q)):TkR y:=by
 unfold Zg3 at h;dsimp only at h;split at h
 ·cases h
 ·split at h
  ·cases h
  ·rename_i h64;cases h;refine⟨hx.1,Or.inr ⟨by show(4:Int)≠6;decide,by show(4:Int)≠7;decide,?_,?_⟩⟩
   ·simp[Ze9,Zmn]
   ·show(Zm3 _ _ _).toArray.size<=_;rw[Yc5,Ze0];omega
theorem Zrd {qq k:Int}(hx:TkR x)(hs:x.s.size=0)(hk:k=2\/k=5)(h:Zxw t qq k x p= .ok (u,y,q)):TkR y:=by
 unfold Zxw at h;split at h
 ·cases h
 ·cases h;refine⟨hx.1,Or.inr ⟨?_,?_,?_,by dsimp only;omega⟩⟩
  ·dsimp only;omega
  ·dsimp only;omega
  ·dsimp only;rcases hk with rfl | rfl <;> simp[Ze9,Zmn,hs]
theorem Z04 (hp:p < t.size)(hl:Zce ((Zab t).getD p 0)=true)(h16: ¬ 16 < Zbv (Zab t) Zav p - p):Zcp (t.extract p (Zbv (Zab t) Zav p))=true:=by
 have hle:=Zha (bs:=Zab t) (ok:=Zav) (p:=p) (by rw[Zhn];omega);rw[Zhn]at hle;have hgo:p < Zbv (Zab t) Zav p:=by
  rw[Zxr (by rw[Zhn];exact hp) (by unfold Zav;rw[hl];rfl)]
  have:=Zha (bs:=Zab t) (ok:=Zav) (p:=p+1) (by rw[Zhn];omega)
  omega
 have hsz:(t.extract p (Zbv (Zab t) Zav p)).size=Zbv (Zab t) Zav p - p:=by rw[Ydz];omega
 unfold Zcp;rw[hsz];simp only[Bool.and_eq_true,decide_eq_true_eq];refine⟨⟨fun i hi=>?_,by omega⟩,by omega⟩;unfold Z47;rw[Zox hle.2 hi];rcases Nat.eq_zero_or_pos i with rfl | h0
 ·rw[Yeg,hl];rfl
 ·have:=Zuz (bs:=Zab t) (ok:=Zav) (i:=p+i) (Nat.le_add_right _ _) (show p+i < Zbv (Zab t) Zav p by omega)
  simp only[Zav,Bool.or_eq_true,decide_eq_true_eq]at this;have hi0:i≠0:=by omega
  simp only[hi0,Bool.or_eq_true,Bool.and_eq_true,decide_eq_true_eq,ne_eq,not_false_eq_true,true_and];rcases this with(h | h) | h
  ·exact Or.inl h
  ·exact Or.inr (Or.inl h)
  ·exact Or.inr (Or.inr h)
theorem Zt7 (h:Zgp t ((Zab t).getD p 0) p= .ok (u,y,q)):TkR y:=by
 have hx:=Zol p;unfold Zgp at h;split at h
 ·rename_i hl;have hp:p < t.size:=Zoc fun h0=>by rw[h0]at hl;revert hl;decide
  unfold Zp7 at h;dsimp only at h;split at h
  ·cases h
  ·rename_i h16;split at h
   ·exact Zus hx h
   ·cases h;exact⟨fun _=>Z04 hp hl h16,Or.inl rfl⟩
 split at h
 ·unfold Zee at h;dsimp only at h;split at h
  ·cases h
  ·split at h
   ·cases h
   ·rename_i h16 hn;cases h;have hn':Zcp (t.extract (p+1) (Zbv (Zab t) Zav (p+1)))=true:=by simpa using hn
    refine⟨hx.1,Or.inr ⟨by show(1:Int)≠6;decide,by show(1:Int)≠7;decide,by simp[Ze9,Zmn,hn'],?_⟩⟩
    have:(t.extract (p+1) (Zbv (Zab t) Zav (p+1))).size<=16:=by
     unfold Zcp at hn';simp only[Bool.and_eq_true,decide_eq_true_eq]at hn';exact hn'.2
    dsimp only;omega
 split at h
 ·unfold Zsw at h;split at h
  ·cases h
  ·rename_i s q' hq;split at h
   ·cases h
   ·rename_i h64;cases h;have hv:=(Zlg ⟨[],by simp,rfl⟩ hq).valid;refine⟨hx.1,Or.inr ⟨by show(3:Int)≠6;decide,by show(3:Int)≠7;decide,?_,?_⟩⟩
    ·simp[Ze9,Zmn,Zuc,hv]
    ·show(List.toArray _).size<=_;rw[Yc5];omega
 split at h
 ·exact Zrd hx rfl (Or.inr rfl) h
 split at h
 ·exact Zrd hx rfl (Or.inl rfl) h
 ·unfold Zp8 at h;split at h
  ·cases h
  ·rename_i m hm;cases h;have hmem:=List.mem_of_find?_eq_some hm;have hall: ∀ m∈Zga,Zgs m=false:=by decide
   exact⟨fun h'=>(by have:=hall m hmem;dsimp only at h';rw[this]at h';cases h'),Or.inl rfl⟩
theorem Zo8 (h:Zg6 t p= .ok (u,y,q)):TkR y:=by
 unfold Zg6 at h;split at h
 ·cases h;exact Zol _
 ·exact Zt7 h
theorem Zcd {z:Tk}(h:Zc0 t x p= .ok (z,y,q)):TkR y/\z=x:=by
 unfold Zc0 at h;split at h
 ·cases h
 ·rename_i hr;cases h;exact⟨Zo8 hr,rfl⟩
theorem Zar {α β:Type}{m:Re α}{f:α->Tk->Nat->Re β}{z:β}(h:Zbf m f= .ok (z,x,p)): ∃ y x' p',m= .ok (y,x',p')/\f y x' p'= .ok (z,x,p):=by
 unfold Zbf at h;split at h
 ·cases h
 ·exact⟨_,_,_,rfl,h⟩
theorem Zhd {s:List UInt8}{z:Unit}(h:Zgx t s x p= .ok (z,y,q)):TkR y:=by
 unfold Zgx at h;split at h
 ·obtain⟨a,b,c,h1,h2⟩:=Zar h;cases h2;exact(Zcd h1).1
 ·cases h
end Go.W
namespace Go.W
variable {t:ByteArray}{s:List UInt8}{d:Nat}{k i:Int}{r:R}{b:Bk}
def Zjt {α:Type} (read:Tk->Nat->Re α) (Q:α->Prop):Prop:= ∀ x p y x' p',TkR x->read x p= .ok (y,x',p')->Q y/\TkR x'
theorem Zhq {α:Type}{Q:α->Prop}{xs:List α}(h: ∀ x∈xs,Q x){y:α}(hy:Q y): ∀ x∈xs++[y],Q x:=fun x hx=>by
 rcases List.mem_append.mp hx with hx | hx
 ·exact h x hx
 ·rw[List.mem_singleton.mp hx];exact hy
theorem Zlh {α:Type}{read:Tk->Nat->Re α}{Q:α->Prop}(hr:Zjt read Q){most:Nat}: ∀ {n:Nat} {xs:List α},(∀ x∈xs,Q x)->xs.length<=most->Zjt (Zmr t read s most n xs) fun ys=>(∀ x∈ys,Q x)/\ys.length<=most/\ys≠[]
 | 0,xs,_,_,x,p,y,x',p',_,h=>by cases h
 | n+1,xs,hx,hl,x,p,y,x',p',hT,h=>by
  rw[Zmr]at h;obtain⟨z,x1,p1,h1,h2⟩:=Zar h;obtain⟨hz,hT1⟩:=hr _ _ _ _ _ hT h1;split at h2
  ·cases h2
  ·rename_i hm;have hl':(xs++[z]).length<=most:=by simp;omega
   split at h2
   ·obtain⟨u,x2,p2,h3,h4⟩:=Zar h2;exact Zlh hr (Zhq hx hz) hl' _ _ _ _ _ (Zcd h3).1 h4
   ·cases h2;exact⟨⟨Zhq hx hz,hl',by simp⟩,hT1⟩
theorem Zmd {read:Tk->Nat->Re T}{Q:T->Prop}(hr:Zjt read Q):Zjt (Zf4 t read s) fun ys=>(∀ x∈ys,Q x)/\ys.length<=6:=fun x p y x' p' hT h=>by
 unfold Zf4 at h;obtain⟨l,x1,p1,h1,h2⟩:=Zar h;obtain⟨u,x2,p2,h3,h4⟩:=Zar h2;cases h4;refine⟨?_,Zhd h3⟩;split at h1
 ·cases h1;simp
 ·have:=(Zlh hr (by simp) (by simp) _ _ _ _ _ hT h1).1
  exact⟨this.1,this.2.1⟩
theorem Zxu {n:Nat}(h:Ze9 k i t n=true)(h1: ¬ (k=1/\0 < d))(h2:t.size<=64)(h3:n<=6)(h4: ¬ (k=7/\d=3)):Zug d k i t n=0:=by
 unfold Zug;rw[if_neg (by rw[h];simpa using h1),if_neg (by omega),if_neg h4]
theorem Zkd {l:List T}(h:Zug d k i t l.length=0)(hl: ∀ y∈l,Zal (d+1) y=0):Zal d (.mk k i t l)=0:=by
 rw[Zal,if_neg (by simp[h]),Zqw,Zg1 hl]
theorem Zq9 (d:Nat)(b:Bool):Zal d (.mk 6 (if b=true then 1 else 0) ⟨#[]⟩ [])=0:=by
 refine Zkd (Zxu ?_ (by omega) (by decide) (by decide) (by omega)) (by simp);cases b <;> decide
theorem Zjy (t:ByteArray): ∀ d,d<=3->Zjt (Zdz t d) fun y=>Zal (3 - d) y=0:=by
 intro d;induction d with
 | zero=>
  intro _ x p y x' p' hT h;rw[Zdz]at h;split at h
  ·obtain⟨z,x1,p1,h1,h2⟩:=Zar h;cases h2;refine⟨?_,(Zcd h1).1⟩
   have:=Zq9 (3 - 0) (decide (x.text.toList=Zpx))
   simpa using this
  split at h
  ·cases h
  split at h
  ·cases h
  ·rename_i hk;obtain⟨z,x1,p1,h1,h2⟩:=Zar h;cases h2;obtain⟨k6,k7,hf,hs⟩:=hT.2.resolve_left (by omega);exact⟨Zkd (Zxu hf (by omega) hs (by simp) (by omega)) (by simp),(Zcd h1).1⟩
 | succ d ih=>
  intro hd x p y x' p' hT h;rw[Zdz]at h;split at h
  ·obtain⟨z,x1,p1,h1,h2⟩:=Zar h;cases h2;refine⟨?_,(Zcd h1).1⟩
   have:=Zq9 (3 - (d+1)) (decide (x.text.toList=Zpx))
   simpa using this
  split at h
  ·obtain⟨z,x1,p1,h1,h2⟩:=Zar h;obtain⟨l,x2,p2,h3,h4⟩:=Zar h2;cases h4;obtain⟨⟨hl,h6⟩,hT2⟩:=Zmd (ih (by omega)) _ _ _ _ _ (Zcd h1).1 h3;exact⟨Zkd (Zxu (by simp[Ze9,Zmn];rfl) (by omega) (by decide) h6 (by omega)) fun y hy=>by rw[show 3 - (d+1)+1=3 - d by omega];exact hl y hy,hT2⟩
  split at h
  ·cases h
  ·rename_i hk;obtain⟨z,x1,p1,h1,h2⟩:=Zar h;cases h2;obtain⟨k6,k7,hf,hs⟩:=hT.2.resolve_left (by omega);exact⟨Zkd (Zxu hf (by omega) hs (by simp) (by omega)) (by simp),(Zcd h1).1⟩
theorem Zkv {α:Type}{f:α->Int}{m:Nat}{l:List α}(h:l.length<=m)(hl: ∀ x∈l,f x=0):Zbw f m l=0:=by
 unfold Zbw;rw[if_neg (by omega),Zg1 hl]
theorem Zoj (t:ByteArray):Zjt (Zmw t) fun y=>Zb9 y=0:=fun x p y x' p' hT h=>by
 unfold Zmw at h;split at h
 ·rename_i hw;obtain⟨z,x1,p1,h1,h2⟩:=Zar h;obtain⟨u,x2,p2,h3,h4⟩:=Zar h2;obtain⟨l,x3,p3,h5,h6⟩:=Zar h4;cases h6;obtain⟨⟨hl,hn⟩,hT3⟩:=Zmd (Zjy t 3 (by omega)) _ _ _ _ _ (Zhd h3) h5;refine⟨?_,hT3⟩;show Zb9 ⟨x.text,l⟩=0;unfold Zb9;rw[if_neg (by simp[hT.1 hw.1]),Zkv hn hl]
 ·cases h
theorem Z39 (s:ByteArray):opW s<=7:=by
 unfold opW;split
 ·rename_i i hi
  have:=(List.findIdx?_eq_some_iff_findIdx_eq.mp hi).1
  have hl:Zbo.length=7:=rfl;omega
 ·omega
def Z7x (g:G):Prop:= ¬ (g.op < 1\/7 < g.op)/\Zal 0 g.a=0/\Zal 0 g.b=0
theorem Zva (t:ByteArray):Zjt (Zot t) Z7x:=fun x p y x' p' hT h=>by
 unfold Zot at h;obtain⟨a,x1,p1,h1,h2⟩:=Zar h;obtain⟨ha,hT1⟩:=Zjy t 3 (by omega) _ _ _ _ _ hT h1;split at h2
 ·cases h2
 ·rename_i ho;obtain⟨u,x2,p2,h3,h4⟩:=Zar h2;obtain⟨b,x3,p3,h5,h6⟩:=Zar h4;obtain⟨hb,hT3⟩:=Zjy t 3 (by omega) _ _ _ _ _ (Zcd h3).1 h5;cases h6
  have:=Z39 x1.text
  exact⟨⟨by dsimp only;omega,ha,hb⟩,hT3⟩
structure Zy0 (r:R):Prop where
 head:r.head=Zmy.head
 nb:r.body.length<=4
 ng:r.guards.length<=4
 body: ∀ a∈r.body,Zb9 a=0
 guards: ∀ g∈r.guards,Z7x g
theorem Zw9 (t:ByteArray)(hr:Zy0 r):Zjt (Zr5 t r) fun y=>Zy0 y/\ ¬ (y.body.length=0/\y.guards.length=0):=fun x p y x' p' hT h=>by
 unfold Zr5 at h;split at h
 ·obtain⟨a,x1,p1,h1,h2⟩:=Zar h;obtain⟨ha,hT1⟩:=Zoj t _ _ _ _ _ hT h1;split at h2
  ·cases h2
  ·cases h2
   have:=hr.nb
   exact⟨⟨⟨hr.head,by simp;omega,hr.ng,Zhq hr.body ha,hr.guards⟩,by simp⟩,hT1⟩
 ·obtain⟨a,x1,p1,h1,h2⟩:=Zar h;obtain⟨ha,hT1⟩:=Zva t _ _ _ _ _ hT h1;split at h2
  ·cases h2
  ·cases h2
   have:=hr.ng
   exact⟨⟨⟨hr.head,hr.nb,by simp;omega,hr.body,Zhq hr.guards ha⟩,by simp⟩,hT1⟩
theorem Zl3 (t:ByteArray): ∀ (n:Nat) {r:R},Zy0 r->Zjt (Zek t n r) fun y=>Zy0 y/\ ¬ (y.body.length=0/\y.guards.length=0)
 | 0,r,_,x,p,y,x',p',_,h=>by cases h
 | n+1,r,hr,x,p,y,x',p',hT,h=>by
  rw[Zek]at h;obtain⟨r1,x1,p1,h1,h2⟩:=Zar h;obtain⟨h3,hT1⟩:=Zw9 t hr _ _ _ _ _ hT h1;split at h2
  ·obtain⟨u,x2,p2,h4,h5⟩:=Zar h2;exact Zl3 t n h3.1 _ _ _ _ _ (Zcd h4).1 h5
  ·cases h2;exact⟨h3,hT1⟩
theorem Z4n {b:List A}{x:T}(h:Zal 0 x=0)(hb:Zcg [x] b=true):Zb1 b x=0:=by
 unfold Zb1;rw[if_neg (by simp[h]),if_neg (by simp[hb])]
theorem Zo4 (t:ByteArray):Zjt (Zlm t) fun y=>Za0 y=0/\y.head=Zmy.head:=fun x p y x' p' hT h=>by
 unfold Zlm at h;obtain⟨r,x1,p1,h1,h2⟩:=Zar h;obtain⟨⟨hr,hn⟩,hT1⟩:=Zl3 t 9 ⟨rfl,by decide,by decide,by simp[Zmy],by simp[Zmy]⟩ _ _ _ _ _ hT h1;split at h2
 ·rename_i hall;cases h2;have hb:=hr.nb;have hg:=hr.ng;refine⟨⟨?_,hr.head⟩,hT1⟩;unfold Za0;rw[if_neg hn,if_neg (by omega),if_neg (by simp[Zg1 hr.body]),Zg1];intro g hG;obtain⟨ho,ha,hb⟩:=hr.guards g hG;have hB:=List.all_eq_true.mp hall g hG;have hB':Zcg [g.a] y.body=true/\Zcg [g.b] y.body=true:=by
   simp only[Zcg,List.all_cons,List.all_nil,Bool.and_true,Bool.and_eq_true]at hB⊢;exact hB
  unfold Ze5;rw[if_neg ho,if_neg (by simp[Z4n ha hB'.1]),Z4n hb hB'.2]
 ·cases h2
theorem Z82 (h:Za0 r=0/\r.head=Zmy.head):Zcj r=0:=by
 unfold Zcj;rw[h.2,if_neg (by decide)];exact h.1
theorem Zrl (t:ByteArray):Zjt (Zho t) fun l=>Zat l=0:=fun x p y x' p' hT h=>by
 unfold Zho at h;obtain⟨u,x1,p1,h1,h2⟩:=Zar h;obtain⟨⟨hall,hl,hne⟩,hT1⟩:=Zlh (Zo4 t) (by simp) (by simp) _ _ _ _ _ (Zhd h1) h2;refine⟨?_,hT1⟩;show Zat y=0;unfold Zat
 rw[if_neg (by simpa using hne),Zkv hl fun r hr=>Z82 (hall r hr)]
structure BkR (b:Bk):Prop where
 nf:b.facts.length<=24
 nr:b.rules.length<=24
 nc:b.checks.length<=24
 facts: ∀ a∈b.facts,Zc5 a=0
 rules: ∀ r∈b.rules,Zcr r=0
 checks: ∀ c∈b.checks,Zat c=0
theorem BkR.right (h:BkR b):Zby b=0:=by
 unfold Zby;rw[if_neg (by simp[Zkv h.nf h.facts]),if_neg (by simp[Zkv h.nr h.rules]),Zkv h.nc h.checks]
theorem Zuj (t:ByteArray)(hb:BkR b):Zjt (Zkg t b) BkR:=fun x p y x' p' _ h=>by
 unfold Zkg at h;obtain⟨u,x1,p1,h1,h2⟩:=Zar h;obtain⟨l,x2,p2,h3,h4⟩:=Zar h2;obtain⟨hl,hT2⟩:=Zrl t _ _ _ _ _ (Zcd h1).1 h3;split at h4
 ·cases h4
 ·cases h4
  have:=hb.nc
  exact⟨⟨hb.nf,hb.nr,by simp;omega,hb.facts,hb.rules,Zhq hb.checks hl⟩,hT2⟩
theorem Zla (t:ByteArray)(hb:BkR b):Zjt (Zb0 t b) BkR:=fun x p y x' p' hT h=>by
 unfold Zb0 at h;obtain⟨hd,x1,p1,h1,h2⟩:=Zar h;obtain⟨ha,hT1⟩:=Zoj t _ _ _ _ _ hT h1;split at h2
 ·obtain⟨u,x2,p2,h3,h4⟩:=Zar h2;obtain⟨r,x3,p3,h5,h6⟩:=Zar h4;obtain⟨hr,hT3⟩:=Zo4 t _ _ _ _ _ (Zcd h3).1 h5;split at h6
  ·cases h6
  ·rename_i hbd;split at h6
   ·cases h6
   ·cases h6
    have:=hb.nr
    refine⟨⟨hb.nf,by simp;omega,hb.nc,hb.facts,Zhq hb.rules ?_,hb.checks⟩,hT3⟩;have hB:Za0 {r with head:=hd}=Za0 r:=rfl;unfold Zcr;rw[if_neg (by simp[ha]),hB,if_neg (by simp[hr.1]),if_neg hbd]
 ·split at h2
  ·cases h2
  ·rename_i hbd;split at h2
   ·cases h2
   ·cases h2
    have:=hb.nf
    refine⟨⟨by simp;omega,hb.nr,hb.nc,Zhq hb.facts ?_,hb.rules,hb.checks⟩,hT1⟩;unfold Zc5;rw[if_neg (by simp[ha]),if_neg hbd]
theorem Zkx (t:ByteArray): ∀ (n:Nat) {b:Bk},BkR b->Zjt (Zed t n b) BkR
 | 0,b,_,x,p,y,x',p',_,h=>by cases h
 | n+1,b,hb,x,p,y,x',p',hT,h=>by
  rw[Zed]at h;split at h
  ·cases h;exact⟨hb,hT⟩
  ·obtain⟨b1,x1,p1,h1,h2⟩:=Zar h;obtain⟨u,x2,p2,h3,h4⟩:=Zar h2;have hb1:BkR b1:=by
    split at h1
    ·exact(Zuj t hb _ _ _ _ _ hT h1).1
    ·exact(Zla t hb _ _ _ _ _ hT h1).1
   exact Zkx t n hb1 _ _ _ _ _ (Zhd h3) h4
theorem Z2a {α:Type}{read:Tk->Nat->Re α}{Q:α->Prop}(hr:Zjt read Q){y:α}(h:Zca t read= .ok y):Q y:=by
 unfold Zca at h;split at h
 ·cases h
 ·split at h
  ·cases h
  ·rename_i h1;cases h;obtain⟨u,x1,p1,h2,h3⟩:=Zar h1;exact(hr _ _ _ _ _ (Zo8 h2) h3).1
theorem Zvv (h:Zca t (Zei t)= .ok b):Zby b=0:=(Z2a (Zkx t 73 ⟨by simp,by simp,by simp,by simp,by simp,by simp⟩) h).right
end Go.W
namespace Go.W
variable {n:Int}{c:Prop}{t:ByteArray}
def Rsn (n:Int):Prop:=1<=n/\n<=7
def Bad {α:Type} (m:Except (Int×Nat) α):Prop:= ∀ e,m= .error e->Rsn e.1
theorem Zb8 {α:Type}{x:α}:Bad (.ok x):=fun _ h=>by cases h
theorem Zbg {α:Type}{p:Nat}(h:Rsn n):Bad (α:=α) (.error (n,p)):=fun _ h'=>by cases h';exact h
theorem r1:Rsn 1:=⟨by decide,by decide⟩
theorem r2:Rsn 2:=⟨by decide,by decide⟩
theorem r3:Rsn 3:=⟨by decide,by decide⟩
theorem r4:Rsn 4:=⟨by decide,by decide⟩
theorem r5:Rsn 5:=⟨by decide,by decide⟩
theorem r6:Rsn 6:=⟨by decide,by decide⟩
theorem r7:Rsn 7:=⟨by decide,by decide⟩
theorem Zaw {α β:Type}{m:Re α}{f:α->Tk->Nat->Re β}(h:Bad m)(hf: ∀ y x p,Bad (f y x p)):Bad (Zbf m f):=by
 unfold Zbf;split
 ·rename_i e;exact fun e' h'=>by cases h';exact h _ rfl
 ·exact hf _ _ _
theorem Zbc {α:Type}[Decidable c]{x y:Except (Int×Nat) α}(hx:Bad x)(hy:Bad y):Bad (if c then x else y):=by split <;> assumption
theorem Zt9 (bs:List Nat)(q:Nat): ∀ f v p,Bad (Zkz bs q f v p)
 | 0,_,_=>Zb8
 | f+1,_,_=>Zbc (Zt9 bs q f _ _) (Zbg r1)
theorem Z40 (t:ByteArray)(x:Tk)(p:Nat):Bad (Zk5 t x p):=by
 unfold Zk5;split
 ·rename_i e h;exact fun e' h'=>by cases h';exact Zt9 _ _ _ _ _ _ h
 ·exact Zbc Zb8 (Zbg r1)
theorem Z5l (t:ByteArray)(x:Tk)(p:Nat):Bad (Zy9 t x p):=by
 unfold Zy9;split
 ·exact Zb8
 ·exact Zbc (Z40 _ _ _) (Zbg r1)
theorem Znb (t:ByteArray)(x:Tk): ∀ f p acc,Bad (Zl1 t x f p acc)
 | 0,_,_=>Zbg r1
 | f+1,p,acc=>by
  rw[Zl1];refine Zbc Zb8 (Zbc (Zbg r1) (Zbc ?_ (Zbc (Zbg r1) (Znb t x f _ _))));split
  ·rename_i e h;exact fun e' h'=>by cases h';exact Z5l _ _ _ _ h
  ·exact Znb t x f _ _
theorem Z07 (t:ByteArray)(x:Tk)(p:Nat):Bad (Zg3 t x p):=Zbc (Zbg r1) (Zbc (Zbg r4) Zb8)
theorem Zyo (t:ByteArray)(q k:Int)(x:Tk)(p:Nat):Bad (Zxw t q k x p):=by
 unfold Zxw;split
 ·rename_i e h;refine fun e' h'=>?_;cases h';unfold Zyj at h;dsimp only at h;generalize (if(Zab t).getD p 0=45 then p+1 else p)=p1 at h;split at h
  ·cases h;exact r1
  ·split at h
   ·cases h
   ·cases h;exact r1
 ·exact Zb8
theorem Zsz (t:ByteArray)(p:Nat):Bad (Zg6 t p):=by
 unfold Zg6;refine Zbc Zb8 ?_;unfold Zgp;refine Zbc (Zbc (Zbg r4) (Zbc (Z07 _ _ _) Zb8)) (Zbc (Zbc (Zbg r4) (Zbc (Zbg r1) Zb8)) (Zbc ?_ (Zbc (Zyo _ _ _ _ _) (Zbc (Zyo _ _ _ _ _) ?_))))
 ·unfold Zsw;split
  ·rename_i e h;exact fun e' h'=>by cases h';exact Znb _ _ _ _ _ _ h
  ·exact Zbc (Zbg r4) Zb8
 ·unfold Zp8;split
  ·exact Zbg r1
  ·exact Zb8
theorem Zct (t:ByteArray)(x:Tk)(p:Nat):Bad (Zc0 t x p):=by
 unfold Zc0;split
 ·rename_i e h;exact fun e' h'=>by cases h';exact Zsz _ _ _ h
 ·exact Zb8
theorem Zh0 (t:ByteArray)(s:List UInt8)(x:Tk)(p:Nat):Bad (Zgx t s x p):=Zbc (Zaw (Zct _ _ _) fun _ _ _=>Zb8) (Zbg r2)
theorem Zrp {α:Type}{read:Tk->Nat->Re α}(hr: ∀ x p,Bad (read x p)){s:List UInt8}{most:Nat}: ∀ n xs x p,Bad (Zmr t read s most n xs x p)
 | 0,_,_,_=>Zbg r4
 | n+1,_,_,_=>Zaw (hr _ _) fun _ _ _=>Zbc (Zbg r4) (Zbc (Zaw (Zct _ _ _) fun _ _ _=>Zrp hr n _ _ _) Zb8)
theorem Zqb {read:Tk->Nat->Re T}(hr: ∀ x p,Bad (read x p))(s:List UInt8)(x:Tk)(p:Nat):Bad (Zf4 t read s x p):=Zaw (Zbc Zb8 (Zrp hr _ _ _ _)) fun _ _ _=>Zaw (Zh0 _ _ _ _) fun _ _ _=>Zb8
theorem Zkm (t:ByteArray): ∀ d x p,Bad (Zdz t d x p)
 | 0,_,_=>Zbc (Zaw (Zct _ _ _) fun _ _ _=>Zb8) (Zbc (Zbg r3) (Zbc (Zbg r2) (Zaw (Zct _ _ _) fun _ _ _=>Zb8)))
 | d+1,_,_=>Zbc (Zaw (Zct _ _ _) fun _ _ _=>Zb8) (Zbc (Zaw (Zct _ _ _) fun _ _ _=>Zaw (Zqb (Zkm t d) _ _ _) fun _ _ _=>Zb8) (Zbc (Zbg r2) (Zaw (Zct _ _ _) fun _ _ _=>Zb8)))
theorem Zui (t:ByteArray)(x:Tk)(p:Nat):Bad (Zmw t x p):=Zbc (Zaw (Zct _ _ _) fun _ _ _=>Zaw (Zh0 _ _ _ _) fun _ _ _=>Zaw (Zqb (Zkm t 3) _ _ _) fun _ _ _=>Zb8) (Zbg r2)
theorem Z01 (t:ByteArray)(x:Tk)(p:Nat):Bad (Zot t x p):=Zaw (Zkm t 3 _ _) fun _ _ _=>Zbc (Zbg r2) (Zaw (Zct _ _ _) fun _ _ _=>Zaw (Zkm t 3 _ _) fun _ _ _=>Zb8)
theorem Z41 (t:ByteArray)(r:R)(x:Tk)(p:Nat):Bad (Zr5 t r x p):=Zbc (Zaw (Zui _ _ _) fun _ _ _=>Zbc (Zbg r4) Zb8) (Zaw (Z01 _ _ _) fun _ _ _=>Zbc (Zbg r4) Zb8)
theorem Zqh (t:ByteArray): ∀ n r x p,Bad (Zek t n r x p)
 | 0,_,_,_=>Zbg r4
 | n+1,_,_,_=>Zaw (Z41 _ _ _ _) fun _ _ _=>Zbc (Zaw (Zct _ _ _) fun _ _ _=>Zqh t n _ _ _) Zb8
theorem Ztp (t:ByteArray)(x:Tk)(p:Nat):Bad (Zlm t x p):=Zaw (Zqh _ _ _ _ _) fun _ _ _=>Zbc Zb8 (Zbg r5)
theorem Znj (t:ByteArray)(x:Tk)(p:Nat):Bad (Zho t x p):=Zaw (Zh0 _ _ _ _) fun _ _ _=>Zrp (Ztp t) _ _ _ _
theorem Zn4 (t:ByteArray): ∀ n b x p,Bad (Zed t n b x p)
 | 0,_,_,_=>Zbg r4
 | n+1,_,_,_=>Zbc Zb8 (Zaw (Zbc (Zaw (Zct _ _ _) fun _ _ _=>Zaw (Znj _ _ _) fun _ _ _=>Zbc (Zbg r4) Zb8) (Zaw (Zui _ _ _) fun _ _ _=>Zbc (Zaw (Zct _ _ _) fun _ _ _=>Zaw (Ztp _ _ _) fun _ _ _=>Zbc (Zbg r5) (Zbc (Zbg r4) Zb8)) (Zbc (Zbg r5) (Zbc (Zbg r4) Zb8)))) fun _ _ _=>Zaw (Zh0 _ _ _ _) fun _ _ _=>Zn4 t n _ _ _)
theorem Zjk (t:ByteArray): ∀ n l x p,Bad (Zcu t n l x p)
 | 0,_,_,_=>Zbg r4
 | n+1,_,_,_=>Zbc Zb8 (Zbc (Zaw (Zct _ _ _) fun _ _ _=>Zaw (Znj _ _ _) fun _ _ _=>Zbc (Zbg r4) (Zaw (Zh0 _ _ _ _) fun _ _ _=>Zjk t n _ _ _)) (Zbg r2))
theorem Zqk {α:Type}(t:ByteArray){read:Tk->Nat->Re α}(hr: ∀ x p,Bad (read x p)):Bad (Zca t read):=by
 unfold Zca;refine Zbc (Zbg r4) ?_;split
 ·rename_i e h;exact fun e' h'=>by cases h';exact Zaw (Zsz _ _) (fun _ _ _=>hr _ _) _ h
 ·exact Zb8
theorem Z3b (t:ByteArray):Bad (Zca t (Zei t)):=Zqk t fun _ _=>Zn4 t 73 _ _ _
theorem Z7b (t:ByteArray):Bad (Zca t (Zdg t)):=Zqk t fun _ _=>Zjk t 25 _ _ _
def Zpk {α:Type} (f:De α):Prop:= ∀ l e,f l= .error e->Rsn e
theorem Ze8 {α β:Type}{f:De α}{g:α->De β}(h:Zpk f)(hg: ∀ x,Zpk (g x)):Zpk (f.then g):=fun l e he=>by
 unfold De.then at he;split at he
 ·rename_i h';cases he;exact h _ _ h'
 ·exact hg _ _ _ he
theorem Zf7 {α β:Type}{f:De α}{g:α->β}(h:Zpk f):Zpk (f.map g):=fun l e he=>by
 unfold De.map at he;split at he
 ·rename_i h';cases he;exact h _ _ h'
 ·cases he
theorem Zse {α:Type}[Decidable c]{f g:De α}(hf:Zpk f)(hg:Zpk g):Zpk (if c then f else g):=by split <;> assumption
theorem Zy8 {α:Type}(h:Rsn n):Zpk (α:=α) fun _=> .error n:=fun _ _ h'=>by cases h';exact h
theorem Zis:Zpk Zfx:=fun l e h=>by cases l <;> cases h;exact r6
theorem Z2f (n:Nat):Zpk (Zfe n):=fun l e h=>by
 unfold Zfe at h;split at h <;> cases h
 exact r6
theorem Zyb: ∀ (l:By) (k n:Nat) (e:Int),Zuw k n l= .error e->Rsn e
 | [],k,n,e,h=>by cases h;exact r6
 | c::l,k,n,e,h=>by
  rw[Zuw]at h;split at h
  ·cases h;exact r7
  ·split at h
   ·cases h
   ·exact Zyb l _ _ e h
theorem Zhm:Zpk Zdm:=fun l e h=>Zyb l 0 0 e h
theorem Zo0:Zpk Zoi:=Zf7 (Ze8 Zhm Z2f)
theorem Zyq {α:Type}{f:De α}(h:Zpk f): ∀ n,Zpk (Ziz f n)
 | 0=>fun l e he=>by cases he
 | n+1=>Ze8 h fun _=>Zf7 (Zyq h n)
theorem Ze1 {α:Type}(m:Nat){f:De α}(h:Zpk f):Zpk (Zbt m f):=Ze8 Zhm fun _=>Zse (Zy8 r4) (Zyq h _)
theorem Zkh: ∀ d,Zpk (Zfg d)
 | 0=>Ze8 Zis fun _=>Zse (Zf7 Zhm) (Zse (Zf7 Zis) (Zse (Zy8 r3) (Zse (Zf7 Zo0) (Zy8 r7))))
 | d+1=>Ze8 Zis fun _=>Zse (Zf7 Zhm) (Zse (Zf7 Zis) (Zse (Zf7 (Ze1 6 (Zkh d))) (Zse (Zf7 Zo0) (Zy8 r7))))
theorem Zo5:Zpk Zpn:=Ze8 Zo0 fun _=>Zf7 (Ze1 6 (Zkh 3))
theorem Zuf:Zpk Zpg:=Ze8 (Ze1 4 Zo5) fun _=>Zf7 (Ze1 4 (Ze8 Zis fun _=>Ze8 (Zkh 3) fun _=>Zf7 (Zkh 3)))
theorem Z1h:Zpk Zil:=Ze8 (Ze1 24 Zo5) fun _=>Ze8 (Ze1 24 (Ze8 Zo5 fun _=>Zf7 Zuf)) fun _=>Zf7 (Ze1 24 (Ze1 4 Zuf))
def Wr (n:Int):Prop:=n=0\/Rsn n
theorem Zex [Decidable c]{x y:Int}(hx:Wr x)(hy:Wr y):Wr (if c then x else y):=by split <;> assumption
theorem wr0:Wr 0:= .inl rfl
theorem Zmz {α:Type}{f:α->Int}(h: ∀ x,Wr (f x)): ∀ l,Wr (Zax f l)
 | []=>wr0
 | _::l=>Zex (h _) (Zmz h l)
theorem Zks {α:Type}{f:α->Int}(h: ∀ x,Wr (f x))(m:Nat)(l:List α):Wr (Zbw f m l):=Zex (.inr r4) (Zmz h l)
theorem Ya6 (d:Nat)(k i:Int)(t:ByteArray)(n:Nat):Wr (Zug d k i t n):=Zex (.inr r2) (Zex (.inr r4) (Zex (.inr r3) wr0))
mutual
theorem Zn9: ∀ (x:T) (d:Nat),Wr (Zal d x)
 | .mk k i t l,d=>by rw[Zal];exact Zex (Ya6 _ _ _ _ _) (Zqf l (d+1))
theorem Zqf: ∀ (l:List T) (d:Nat),Wr (Zh6 d l)
 | [],d=>by rw[Zh6];exact wr0
 | x::r,d=>by rw[Zh6];exact Zex (Zn9 x d) (Zqf r d)
end
theorem Zoy (a:A):Wr (Zb9 a):=Zex (.inr r2) (Zks (fun x=>Zn9 x 0) _ _)
theorem Zl4 (b:List A)(t:T):Wr (Zb1 b t):=Zex (Zn9 _ _) (Zex (.inr r5) wr0)
theorem Zma (r:R):Wr (Za0 r):=Zex (.inr r2) (Zex (.inr r4) (Zex (Zmz Zoy _) (Zmz (fun _=>Zex (.inr r2) (Zex (Zl4 _ _) (Zl4 _ _))) _)))
theorem Zqg (b:Bk):Wr (Zby b):=Zex (Zks (fun _=>Zex (Zoy _) (Zex (.inr r5) wr0)) _ _) (Zex (Zks (fun _=>Zex (Zoy _) (Zex (Zma _) (Zex (.inr r5) wr0))) _ _) (Zks (fun _=>Zex (.inr r2) (Zks (fun _=>Zex (.inr r2) (Zma _)) _ _)) _ _))
theorem Zq4 {l:By}{e:Int}(h:Zc2 l= .error e):Rsn e:=by
 unfold Zc2 at h;split at h
 ·cases h;exact r4
 ·split at h
  ·rename_i h';cases h;unfold Zc7 at h';split at h'
   ·rename_i h2;cases h';exact Z1h _ _ h2
   ·split at h' <;> cases h'
    exact r7
  ·rename_i x _;split at h
   ·rename_i hw;cases h;exact(Zqg x).resolve_left hw
   ·cases h
end Go.W
namespace Go.W
variable {B d b o:Nat}{w:World}{vs:List Value}{x:A}
theorem Zao.mem {α:Type}{s:Nat}{Q:Nat->Nat->α->Prop}{p:Option Addr}{xs:List α}(h:Zao s Q p xs){y:α}(hy:y∈xs): ∃ b o,Q b o y:=by
 obtain⟨i,hi⟩:=List.mem_iff_getElem?.mp hy;obtain⟨b,o,_,q⟩:=h.at_ i y hi;exact⟨_,_,q⟩
theorem Zbl.inT: ∀ {k d b o:Nat} {x:T},k < d->Zbl B w d b o x->InT k x
 | 0,d+1,b,o,x,_,h=>by
  obtain⟨_,p,c,_,_,_,_,_,_,_,_,_,hi,_⟩:=h.vals;exact hi
 | k+1,d+1,b,o,x,hk,h=>by
  obtain⟨_,p,c,_,_,_,_,_,_,_,_,_,hi,_,hr⟩:=h.vals;exact⟨hi,fun y hy=>by obtain⟨_,_,q⟩:=hr.mem hy;exact Zbl.inT (by omega) q⟩
theorem Zcv.inT {x:T}(hd:2 < d)(h:Zcv B w d vs x):InT 3 x:=by
 obtain⟨_,_,_,_,_,hi,_,hr⟩:=h;exact⟨hi,fun y hy=>by obtain⟨_,_,q⟩:=hr.mem hy;exact Zbl.inT hd q⟩
theorem Zev.inA (hd:2 < d)(h:Zev B w d vs x):InA x:=by
 obtain⟨_,_,_,_,_,hr⟩:=h;exact fun y hy=>by obtain⟨_,_,q⟩:=hr.mem hy;exact Zbl.inT (by omega) q
theorem Zbd.inA (hd:3 < d)(h:Zbd B w d b o x):InA x:=by
 obtain⟨d,rfl⟩: ∃ e,d=e+1:=⟨d - 1,by omega⟩;obtain⟨_,_,_,_,_,s⟩:=h.vals;exact s.inA (by omega)
theorem Zco.inG {x:G}(hd:3 < d)(h:Zco B w d b o x):InG x:=by
 obtain⟨d,rfl⟩: ∃ e,d=e+1:=⟨d - 1,by omega⟩;obtain⟨_,_,_,_,_,_,_,_,_,_,_,_,_,_,s⟩:=h.vals;obtain⟨_,_,_,_,h1,h2⟩:=s;exact⟨h1.inT (by omega),h2.inT (by omega)⟩
theorem Zb4.inR {x:R}(hd:3 < d)(h:Zb4 B w d b o x):InR x:=by
 obtain⟨d,rfl⟩: ∃ e,d=e+1:=⟨d - 1,by omega⟩;obtain⟨_,_,_,_,_,_,_,_,_,_,_,s⟩:=h.vals;obtain⟨_,_,_,_,_,_,h1,_,h2,_,h3⟩:=s;exact⟨h1.inA (by omega),fun y hy=>by obtain⟨_,_,q⟩:=h2.mem hy;exact q.inA (by omega),fun y hy=>by obtain⟨_,_,q⟩:=h3.mem hy;exact q.inG (by omega)⟩
theorem Zbk.inBk {x:Bk}(hd:2 < d)(h:Zbk B w d vs x):Zz0 x:=by
 obtain⟨_,_,_,_,_,_,_,_,h1,_,h2,_,h3⟩:=h;refine⟨fun y hy=>by obtain⟨_,_,q⟩:=h1.mem hy;exact q.inA (by omega),fun y hy=>by obtain⟨_,_,q⟩:=h2.mem hy;exact q.inR (by omega),fun y hy=>?_⟩;obtain⟨_,_,q⟩:=h3.mem hy;obtain⟨_,_,_,_,s⟩:=q.vals;obtain⟨_,_,_,_,h4⟩:=s;exact fun r hr=>by obtain⟨_,_,q⟩:=h4.mem hr;exact q.inR (by omega)
end Go.W
namespace Go.W
theorem Zg9.vals {ty:Tys}{d:Nat}{w:World}{vs:List Value}{F:List Nat}{x:Pol}(h:Zg9 ty d w vs x F): ∃ p c,vs=[.bool x.allow,.slice p x.either.length c]:=by
 obtain⟨v,rfl,h⟩:=h;obtain⟨p,c,rfl⟩:=Zag.form h;exact⟨p,c,rfl⟩
structure Z44 {α:Type} (e:TypeId) (s:Nat) (Q:Zgk α) (B:Nat) (w w1:World) (F G:List Nat) (v:Value) (ys:List α) (F':List Nat):Prop where
 row:Zag e s Q w1 v ys F'
 new:Za9 B w1 F'
 sub: ∀ k,k∈F'->k∈F\/k∈G\/w.heap.size<=k
 os:w1.os=w.os
 tape:w1.tape=w.tape
 output:w1.output=w.output
 size:w.heap.size<=w1.heap.size
 same: ∀ k,k < w.heap.size->k∉F->w1.heap[k]?=w.heap[k]?
end Go.W
namespace Go.P
variable {d B m k c:Nat}{a:Nat->Addr}{w:World}{p:Option Addr}{vs:List Value}{F F2:List Nat}
theorem Zwd {xs:List T}{x:T}(Z:Zap a w)(hR:Zag 103 4 (Za3 Zad (d+1)) w (.slice p xs.length c) xs F)(hQ:Za3 Zad (d+1) w vs x F2)(hB:B<=w.heap.size)(hN:Za9 B w F)(hN2:Za9 B w F2)(hD: ∀ j,j∈F->j∉F2)(hm:m < 1000)(hl:xs.length<=m):
  Calls Tryz.prog 235 #[.slice p xs.length c,.agg vs.toArray,.int .i64 (m:Int),.int .i64 (k:Int)] w fun e w'=>(xs.length=m/\Zfo a 4 k w.heap.size e w'/\Below w.heap.size w w')\/(xs.length≠m/\ ∃ p' c' F',e= .returned (.slice p' (xs.length+1) c')/\Z44 103 4 (Za3 Zad (d+1)) B w w' F F2 (.slice p' (xs.length+1) c') (xs++[x]) F'):=by
 obtain⟨p1,c1,rfl⟩:=Za3.vals hQ;have H:=Zaa (Ycs hR (Ycs hQ (Ycs hN hN2)));have HD:=Zaa hD;have z4:=fun o=>Zac Z.c4 ((Yct _ w).alloc lr o);have CS:=Zaa (fun u=>Zeu a (n:=4) (by decide) k u);obtain⟨n,hn⟩: ∃ n,xs.length=n:=⟨_,rfl⟩;have HX:=Zaa hn;rw[hn];clear hR hQ hN hN2 hD Z;go_enter Tryz.func235,Tryz.ntmps235
 by_cases hnm:n=m
 ·have g1:((n:Int)==(m:Int))=true:=by rw[beq_iff_eq];omega
  have E:=Zaa hnm;clear hnm hn;go_wp2_with fail
  refine(CS.out _).mono ?_;rintro e w2 ⟨⟨L,hL,rfl,hB2⟩,hb⟩;exact⟨rfl,Or.inl ⟨E.out,⟨L,by simp at hL;omega,rfl,hB2⟩,((Yct _ w).alloc lr _).trans (hb.mono (by simp))⟩⟩
 ·have g1:((n:Int)==(m:Int))=false:=by rw[beq_eq_false_iff_ne];omega
  have E:=Zaa hnm;have hl1:xs.length < 100000000:=by omega
  clear hnm hn CS z4;go_wp2_with (at_builtin;go_must (refine Za7 Zny rfl (.tmp 16) (.tmp 18) rfl (Za3.stable (ty:=Zad) (d+1)) (fun _ _ _ _ h=>Za3.one h) B (.slice p n c) xs F rfl (Zag.stable (Za3.stable (ty:=Zad) (d+1)) _ _ _ _ _ (HX.out▸H.out.1) fun j hj=>(Ycx _ _ _ (by have:=H.out.2.2.1.lt j hj;simp;omega)).trans (Ycx _ _ _ (H.out.2.2.1.lt j hj))) (w.heap.size+1) #[.int .i64 x.k,.int .i64 x.i,.string x.t,.slice p1 x.l.length c1] 103 (0,0) x F2 rfl (by have:=Zas (w.alloc (.cells #[.int .i64 x.k,.int .i64 x.i,.string x.t,.slice p1 x.l.length c1] 103)) (.cells #[.int .i64 x.k,.int .i64 x.i,.string x.t,.slice p1 x.l.length c1] 103);simpa using this) rfl (Za3.stable (ty:=Zad) (d+1) _ _ _ _ _ H.out.2.1 fun j hj=>(Ycx _ _ _ (by have:=H.out.2.2.2.lt j hj;simp;omega)).trans (Ycx _ _ _ (H.out.2.2.2.lt j hj))) hl1 (by simp;omega) (H.out.2.2.1.later lr (by simp;omega)) (H.out.2.2.2.later lr (by simp;omega)) HD.out ?_);intro g3 cap3 w4 F3 happ)
  have R4:=happ.row;rw[HX.out]at R4;try rw[HX.out]
  go_ret
  exact Or.inr ⟨E.out,_,_,F3,rfl,⟨R4,happ.new,fun j hj=>(happ.sub j hj).imp_right fun h=>h.imp_right fun h=>by simp at h;omega,happ.os,happ.tape,happ.output,by have:=happ.size;simp at this;omega,fun j hj hF=>(happ.same j (by simp;omega) hF).trans ((Ycx _ _ _ (by simp;omega)).trans (Ycx _ _ _ hj))⟩⟩
theorem Znh {xs:List A}{x:A}(Z:Zap a w)(hR:Zag 98 2 (Zbj Zad (d)) w (.slice p xs.length c) xs F)(hQ:Zbj Zad (d) w vs x F2)(hB:B<=w.heap.size)(hN:Za9 B w F)(hN2:Za9 B w F2)(hD: ∀ j,j∈F->j∉F2)(hm:m < 1000)(hl:xs.length<=m):
  Calls Tryz.prog 135 #[.slice p xs.length c,.agg vs.toArray,.int .i64 (m:Int),.int .i64 (k:Int)] w fun e w'=>(xs.length=m/\Zfo a 4 k w.heap.size e w'/\Below w.heap.size w w')\/(xs.length≠m/\ ∃ p' c' F',e= .returned (.slice p' (xs.length+1) c')/\Z44 98 2 (Zbj Zad (d)) B w w' F F2 (.slice p' (xs.length+1) c') (xs++[x]) F'):=by
 obtain⟨p1,c1,rfl⟩:=Zbj.vals hQ;have H:=Zaa (Ycs hR (Ycs hQ (Ycs hN hN2)));have HD:=Zaa hD;have z4:=fun o=>Zac Z.c4 ((Yct _ w).alloc lr o);have CS:=Zaa (fun u=>Zeu a (n:=4) (by decide) k u);obtain⟨n,hn⟩: ∃ n,xs.length=n:=⟨_,rfl⟩;have HX:=Zaa hn;rw[hn];clear hR hQ hN hN2 hD Z;go_enter Tryz.func135,Tryz.ntmps135
 by_cases hnm:n=m
 ·have g1:((n:Int)==(m:Int))=true:=by rw[beq_iff_eq];omega
  have E:=Zaa hnm;clear hnm hn;go_wp2_with fail
  refine(CS.out _).mono ?_;rintro e w2 ⟨⟨L,hL,rfl,hB2⟩,hb⟩;exact⟨rfl,Or.inl ⟨E.out,⟨L,by simp at hL;omega,rfl,hB2⟩,((Yct _ w).alloc lr _).trans (hb.mono (by simp))⟩⟩
 ·have g1:((n:Int)==(m:Int))=false:=by rw[beq_eq_false_iff_ne];omega
  have E:=Zaa hnm;have hl1:xs.length < 100000000:=by omega
  clear hnm hn CS z4;go_wp2_with (at_builtin;go_must (refine Za7 Zu4 rfl (.tmp 16) (.tmp 18) rfl (Zbj.stable (ty:=Zad) (d)) (fun _ _ _ _ h=>Zbj.one h) B (.slice p n c) xs F rfl (Zag.stable (Zbj.stable (ty:=Zad) (d)) _ _ _ _ _ (HX.out▸H.out.1) fun j hj=>(Ycx _ _ _ (by have:=H.out.2.2.1.lt j hj;simp;omega)).trans (Ycx _ _ _ (H.out.2.2.1.lt j hj))) (w.heap.size+1) #[.string x.name,.slice p1 x.terms.length c1] 98 (0,0) x F2 rfl (by have:=Zas (w.alloc (.cells #[.string x.name,.slice p1 x.terms.length c1] 98)) (.cells #[.string x.name,.slice p1 x.terms.length c1] 98);simpa using this) rfl (Zbj.stable (ty:=Zad) (d) _ _ _ _ _ H.out.2.1 fun j hj=>(Ycx _ _ _ (by have:=H.out.2.2.2.lt j hj;simp;omega)).trans (Ycx _ _ _ (H.out.2.2.2.lt j hj))) hl1 (by simp;omega) (H.out.2.2.1.later lr (by simp;omega)) (H.out.2.2.2.later lr (by simp;omega)) HD.out ?_);intro g3 cap3 w4 F3 happ)
  have R4:=happ.row;rw[HX.out]at R4;try rw[HX.out]
  go_ret
  exact Or.inr ⟨E.out,_,_,F3,rfl,⟨R4,happ.new,fun j hj=>(happ.sub j hj).imp_right fun h=>h.imp_right fun h=>by simp at h;omega,happ.os,happ.tape,happ.output,by have:=happ.size;simp at this;omega,fun j hj hF=>(happ.same j (by simp;omega) hF).trans ((Ycx _ _ _ (by simp;omega)).trans (Ycx _ _ _ hj))⟩⟩
theorem Zut {xs:List G}{x:G}(Z:Zap a w)(hR:Zag 105 9 (Zbr Zad (d+1)) w (.slice p xs.length c) xs F)(hQ:Zbr Zad (d+1) w vs x F2)(hB:B<=w.heap.size)(hN:Za9 B w F)(hN2:Za9 B w F2)(hD: ∀ j,j∈F->j∉F2)(hm:m < 1000)(hl:xs.length<=m):
  Calls Tryz.prog 185 #[.slice p xs.length c,.agg vs.toArray,.int .i64 (m:Int),.int .i64 (k:Int)] w fun e w'=>(xs.length=m/\Zfo a 4 k w.heap.size e w'/\Below w.heap.size w w')\/(xs.length≠m/\ ∃ p' c' F',e= .returned (.slice p' (xs.length+1) c')/\Z44 105 9 (Zbr Zad (d+1)) B w w' F F2 (.slice p' (xs.length+1) c') (xs++[x]) F'):=by
 obtain⟨p1,c1,p2,c2,rfl⟩:=Zbr.vals hQ;have H:=Zaa (Ycs hR (Ycs hQ (Ycs hN hN2)));have HD:=Zaa hD;have z4:=fun o=>Zac Z.c4 ((Yct _ w).alloc lr o);have CS:=Zaa (fun u=>Zeu a (n:=4) (by decide) k u);obtain⟨n,hn⟩: ∃ n,xs.length=n:=⟨_,rfl⟩;have HX:=Zaa hn;rw[hn];clear hR hQ hN hN2 hD Z;go_enter Tryz.func185,Tryz.ntmps185
 by_cases hnm:n=m
 ·have g1:((n:Int)==(m:Int))=true:=by rw[beq_iff_eq];omega
  have E:=Zaa hnm;clear hnm hn;go_wp2_with fail
  refine(CS.out _).mono ?_;rintro e w2 ⟨⟨L,hL,rfl,hB2⟩,hb⟩;exact⟨rfl,Or.inl ⟨E.out,⟨L,by simp at hL;omega,rfl,hB2⟩,((Yct _ w).alloc lr _).trans (hb.mono (by simp))⟩⟩
 ·have g1:((n:Int)==(m:Int))=false:=by rw[beq_eq_false_iff_ne];omega
  have E:=Zaa hnm;have hl1:xs.length < 100000000:=by omega
  clear hnm hn CS z4;go_wp2_with (at_builtin;go_must (refine Za7 Zra rfl (.tmp 16) (.tmp 18) rfl (Zbr.stable (ty:=Zad) (d+1)) (fun _ _ _ _ h=>Zbr.one h) B (.slice p n c) xs F rfl (Zag.stable (Zbr.stable (ty:=Zad) (d+1)) _ _ _ _ _ (HX.out▸H.out.1) fun j hj=>(Ycx _ _ _ (by have:=H.out.2.2.1.lt j hj;simp;omega)).trans (Ycx _ _ _ (H.out.2.2.1.lt j hj))) (w.heap.size+1) #[.int .i64 x.op,.int .i64 x.a.k,.int .i64 x.a.i,.string x.a.t,.slice p1 x.a.l.length c1,.int .i64 x.b.k,.int .i64 x.b.i,.string x.b.t,.slice p2 x.b.l.length c2] 105 (0,0) x F2 rfl (by have:=Zas (w.alloc (.cells #[.int .i64 x.op,.int .i64 x.a.k,.int .i64 x.a.i,.string x.a.t,.slice p1 x.a.l.length c1,.int .i64 x.b.k,.int .i64 x.b.i,.string x.b.t,.slice p2 x.b.l.length c2] 105)) (.cells #[.int .i64 x.op,.int .i64 x.a.k,.int .i64 x.a.i,.string x.a.t,.slice p1 x.a.l.length c1,.int .i64 x.b.k,.int .i64 x.b.i,.string x.b.t,.slice p2 x.b.l.length c2] 105);simpa using this) rfl (Zbr.stable (ty:=Zad) (d+1) _ _ _ _ _ H.out.2.1 fun j hj=>(Ycx _ _ _ (by have:=H.out.2.2.2.lt j hj;simp;omega)).trans (Ycx _ _ _ (H.out.2.2.2.lt j hj))) hl1 (by simp;omega) (H.out.2.2.1.later lr (by simp;omega)) (H.out.2.2.2.later lr (by simp;omega)) HD.out ?_);intro g3 cap3 w4 F3 happ)
  have R4:=happ.row;rw[HX.out]at R4;try rw[HX.out]
  go_ret
  exact Or.inr ⟨E.out,_,_,F3,rfl,⟨R4,happ.new,fun j hj=>(happ.sub j hj).imp_right fun h=>h.imp_right fun h=>by simp at h;omega,happ.os,happ.tape,happ.output,by have:=happ.size;simp at this;omega,fun j hj hF=>(happ.same j (by simp;omega) hF).trans ((Ycx _ _ _ (by simp;omega)).trans (Ycx _ _ _ hj))⟩⟩
theorem Zm9 {xs:List R}{x:R}(Z:Zap a w)(hR:Zag 101 4 (Zbq Zad (d)) w (.slice p xs.length c) xs F)(hQ:Zbq Zad (d) w vs x F2)(hB:B<=w.heap.size)(hN:Za9 B w F)(hN2:Za9 B w F2)(hD: ∀ j,j∈F->j∉F2)(hm:m < 1000)(hl:xs.length<=m):
  Calls Tryz.prog 137 #[.slice p xs.length c,.agg vs.toArray,.int .i64 (m:Int),.int .i64 (k:Int)] w fun e w'=>(xs.length=m/\Zfo a 4 k w.heap.size e w'/\Below w.heap.size w w')\/(xs.length≠m/\ ∃ p' c' F',e= .returned (.slice p' (xs.length+1) c')/\Z44 101 4 (Zbq Zad (d)) B w w' F F2 (.slice p' (xs.length+1) c') (xs++[x]) F'):=by
 obtain⟨p1,c1,p2,c2,p3,c3,rfl⟩:=Zbq.vals hQ;have H:=Zaa (Ycs hR (Ycs hQ (Ycs hN hN2)));have HD:=Zaa hD;have z4:=fun o=>Zac Z.c4 ((Yct _ w).alloc lr o);have CS:=Zaa (fun u=>Zeu a (n:=4) (by decide) k u);obtain⟨n,hn⟩: ∃ n,xs.length=n:=⟨_,rfl⟩;have HX:=Zaa hn;rw[hn];clear hR hQ hN hN2 hD Z;go_enter Tryz.func137,Tryz.ntmps137
 by_cases hnm:n=m
 ·have g1:((n:Int)==(m:Int))=true:=by rw[beq_iff_eq];omega
  have E:=Zaa hnm;clear hnm hn;go_wp2_with fail
  refine(CS.out _).mono ?_;rintro e w2 ⟨⟨L,hL,rfl,hB2⟩,hb⟩;exact⟨rfl,Or.inl ⟨E.out,⟨L,by simp at hL;omega,rfl,hB2⟩,((Yct _ w).alloc lr _).trans (hb.mono (by simp))⟩⟩
 ·have g1:((n:Int)==(m:Int))=false:=by rw[beq_eq_false_iff_ne];omega
  have E:=Zaa hnm;have hl1:xs.length < 100000000:=by omega
  clear hnm hn CS z4;go_wp2_with (at_builtin;go_must (refine Za7 Ztx rfl (.tmp 16) (.tmp 18) rfl (Zbq.stable (ty:=Zad) (d)) (fun _ _ _ _ h=>Zbq.one h) B (.slice p n c) xs F rfl (Zag.stable (Zbq.stable (ty:=Zad) (d)) _ _ _ _ _ (HX.out▸H.out.1) fun j hj=>(Ycx _ _ _ (by have:=H.out.2.2.1.lt j hj;simp;omega)).trans (Ycx _ _ _ (H.out.2.2.1.lt j hj))) (w.heap.size+1) #[.string x.head.name,.slice p1 x.head.terms.length c1,.slice p2 x.body.length c2,.slice p3 x.guards.length c3] 101 (0,0) x F2 rfl (by have:=Zas (w.alloc (.cells #[.string x.head.name,.slice p1 x.head.terms.length c1,.slice p2 x.body.length c2,.slice p3 x.guards.length c3] 101)) (.cells #[.string x.head.name,.slice p1 x.head.terms.length c1,.slice p2 x.body.length c2,.slice p3 x.guards.length c3] 101);simpa using this) rfl (Zbq.stable (ty:=Zad) (d) _ _ _ _ _ H.out.2.1 fun j hj=>(Ycx _ _ _ (by have:=H.out.2.2.2.lt j hj;simp;omega)).trans (Ycx _ _ _ (H.out.2.2.2.lt j hj))) hl1 (by simp;omega) (H.out.2.2.1.later lr (by simp;omega)) (H.out.2.2.2.later lr (by simp;omega)) HD.out ?_);intro g3 cap3 w4 F3 happ)
  have R4:=happ.row;rw[HX.out]at R4;try rw[HX.out]
  go_ret
  exact Or.inr ⟨E.out,_,_,F3,rfl,⟨R4,happ.new,fun j hj=>(happ.sub j hj).imp_right fun h=>h.imp_right fun h=>by simp at h;omega,happ.os,happ.tape,happ.output,by have:=happ.size;simp at this;omega,fun j hj hF=>(happ.same j (by simp;omega) hF).trans ((Ycx _ _ _ (by simp;omega)).trans (Ycx _ _ _ hj))⟩⟩
theorem Ztv {xs:List (List R)}{x:(List R)}(Z:Zap a w)(hR:Zag 67 1 (Zbu Zad (d)) w (.slice p xs.length c) xs F)(hQ:Zbu Zad (d) w vs x F2)(hB:B<=w.heap.size)(hN:Za9 B w F)(hN2:Za9 B w F2)(hD: ∀ j,j∈F->j∉F2)(hm:m < 1000)(hl:xs.length<=m):
  Calls Tryz.prog 132 #[.slice p xs.length c,.agg vs.toArray,.int .i64 (m:Int),.int .i64 (k:Int)] w fun e w'=>(xs.length=m/\Zfo a 4 k w.heap.size e w'/\Below w.heap.size w w')\/(xs.length≠m/\ ∃ p' c' F',e= .returned (.slice p' (xs.length+1) c')/\Z44 67 1 (Zbu Zad (d)) B w w' F F2 (.slice p' (xs.length+1) c') (xs++[x]) F'):=by
 obtain⟨p1,c1,rfl⟩:=Zbu.vals hQ;have H:=Zaa (Ycs hR (Ycs hQ (Ycs hN hN2)));have HD:=Zaa hD;have z4:=fun o=>Zac Z.c4 ((Yct _ w).alloc lr o);have CS:=Zaa (fun u=>Zeu a (n:=4) (by decide) k u);obtain⟨n,hn⟩: ∃ n,xs.length=n:=⟨_,rfl⟩;have HX:=Zaa hn;rw[hn];clear hR hQ hN hN2 hD Z;go_enter Tryz.func132,Tryz.ntmps132
 by_cases hnm:n=m
 ·have g1:((n:Int)==(m:Int))=true:=by rw[beq_iff_eq];omega
  have E:=Zaa hnm;clear hnm hn;go_wp2_with fail
  refine(CS.out _).mono ?_;rintro e w2 ⟨⟨L,hL,rfl,hB2⟩,hb⟩;exact⟨rfl,Or.inl ⟨E.out,⟨L,by simp at hL;omega,rfl,hB2⟩,((Yct _ w).alloc lr _).trans (hb.mono (by simp))⟩⟩
 ·have g1:((n:Int)==(m:Int))=false:=by rw[beq_eq_false_iff_ne];omega
  have E:=Zaa hnm;have hl1:xs.length < 100000000:=by omega
  clear hnm hn CS z4;go_wp2_with (at_builtin;go_must (refine Za7 Zqz rfl (.tmp 16) (.tmp 18) rfl (Zbu.stable (ty:=Zad) (d)) (fun _ _ _ _ h=>Zbu.one h) B (.slice p n c) xs F rfl (Zag.stable (Zbu.stable (ty:=Zad) (d)) _ _ _ _ _ (HX.out▸H.out.1) fun j hj=>(Ycx _ _ _ (by have:=H.out.2.2.1.lt j hj;simp;omega)).trans (Ycx _ _ _ (H.out.2.2.1.lt j hj))) (w.heap.size+1) #[.slice p1 x.length c1] 67 (0,0) x F2 rfl (by have:=Zas (w.alloc (.cells #[.slice p1 x.length c1] 67)) (.cells #[.slice p1 x.length c1] 67);simpa using this) rfl (Zbu.stable (ty:=Zad) (d) _ _ _ _ _ H.out.2.1 fun j hj=>(Ycx _ _ _ (by have:=H.out.2.2.2.lt j hj;simp;omega)).trans (Ycx _ _ _ (H.out.2.2.2.lt j hj))) hl1 (by simp;omega) (H.out.2.2.1.later lr (by simp;omega)) (H.out.2.2.2.later lr (by simp;omega)) HD.out ?_);intro g3 cap3 w4 F3 happ)
  have R4:=happ.row;rw[HX.out]at R4;try rw[HX.out]
  go_ret
  exact Or.inr ⟨E.out,_,_,F3,rfl,⟨R4,happ.new,fun j hj=>(happ.sub j hj).imp_right fun h=>h.imp_right fun h=>by simp at h;omega,happ.os,happ.tape,happ.output,by have:=happ.size;simp at this;omega,fun j hj hF=>(happ.same j (by simp;omega) hF).trans ((Ycx _ _ _ (by simp;omega)).trans (Ycx _ _ _ hj))⟩⟩
theorem Zfh {xs:List Pol}{x:Pol}(Z:Zap a w)(hR:Zag 179 2 (Zg9 Zad (d)) w (.slice p xs.length c) xs F)(hQ:Zg9 Zad (d) w vs x F2)(hB:B<=w.heap.size)(hN:Za9 B w F)(hN2:Za9 B w F2)(hD: ∀ j,j∈F->j∉F2)(hm:m < 1000)(hl:xs.length<=m):
  Calls Tryz.prog 84 #[.slice p xs.length c,.agg vs.toArray,.int .i64 (m:Int),.int .i64 (k:Int)] w fun e w'=>(xs.length=m/\Zfo a 4 k w.heap.size e w'/\Below w.heap.size w w')\/(xs.length≠m/\ ∃ p' c' F',e= .returned (.slice p' (xs.length+1) c')/\Z44 179 2 (Zg9 Zad (d)) B w w' F F2 (.slice p' (xs.length+1) c') (xs++[x]) F'):=by
 obtain⟨p1,c1,rfl⟩:=Zg9.vals hQ;have H:=Zaa (Ycs hR (Ycs hQ (Ycs hN hN2)));have HD:=Zaa hD;have z4:=fun o=>Zac Z.c4 ((Yct _ w).alloc lr o);have CS:=Zaa (fun u=>Zeu a (n:=4) (by decide) k u);obtain⟨n,hn⟩: ∃ n,xs.length=n:=⟨_,rfl⟩;have HX:=Zaa hn;rw[hn];clear hR hQ hN hN2 hD Z;go_enter Tryz.func84,Tryz.ntmps84
 by_cases hnm:n=m
 ·have g1:((n:Int)==(m:Int))=true:=by rw[beq_iff_eq];omega
  have E:=Zaa hnm;clear hnm hn;go_wp2_with fail
  refine(CS.out _).mono ?_;rintro e w2 ⟨⟨L,hL,rfl,hB2⟩,hb⟩;exact⟨rfl,Or.inl ⟨E.out,⟨L,by simp at hL;omega,rfl,hB2⟩,((Yct _ w).alloc lr _).trans (hb.mono (by simp))⟩⟩
 ·have g1:((n:Int)==(m:Int))=false:=by rw[beq_eq_false_iff_ne];omega
  have E:=Zaa hnm;have hl1:xs.length < 100000000:=by omega
  clear hnm hn CS z4;go_wp2_with (at_builtin;go_must (refine Za7 Z5x rfl (.tmp 16) (.tmp 18) rfl (Zg9.stable (ty:=Zad) (d)) (fun _ _ _ _ h=>Zg9.one h) B (.slice p n c) xs F rfl (Zag.stable (Zg9.stable (ty:=Zad) (d)) _ _ _ _ _ (HX.out▸H.out.1) fun j hj=>(Ycx _ _ _ (by have:=H.out.2.2.1.lt j hj;simp;omega)).trans (Ycx _ _ _ (H.out.2.2.1.lt j hj))) (w.heap.size+1) #[.bool x.allow,.slice p1 x.either.length c1] 179 (0,0) x F2 rfl (by have:=Zas (w.alloc (.cells #[.bool x.allow,.slice p1 x.either.length c1] 179)) (.cells #[.bool x.allow,.slice p1 x.either.length c1] 179);simpa using this) rfl (Zg9.stable (ty:=Zad) (d) _ _ _ _ _ H.out.2.1 fun j hj=>(Ycx _ _ _ (by have:=H.out.2.2.2.lt j hj;simp;omega)).trans (Ycx _ _ _ (H.out.2.2.2.lt j hj))) hl1 (by simp;omega) (H.out.2.2.1.later lr (by simp;omega)) (H.out.2.2.2.later lr (by simp;omega)) HD.out ?_);intro g3 cap3 w4 F3 happ)
  have R4:=happ.row;rw[HX.out]at R4;try rw[HX.out]
  go_ret
  exact Or.inr ⟨E.out,_,_,F3,rfl,⟨R4,happ.new,fun j hj=>(happ.sub j hj).imp_right fun h=>h.imp_right fun h=>by simp at h;omega,happ.os,happ.tape,happ.output,by have:=happ.size;simp at this;omega,fun j hj hF=>(happ.same j (by simp;omega) hF).trans ((Ycx _ _ _ (by simp;omega)).trans (Ycx _ _ _ hj))⟩⟩
end Go.P
namespace Go.W
variable {t:ByteArray}{x y:Tk}{p q:Nat}{u:Unit}
def Zm0 (x:Tk):Prop:=x.text.size < 1000000000/\x.s.size < 1000000000/\Zk2 x.k/\Zk2 x.i
theorem Zgt:Zk2 0:=⟨by decide,by decide⟩
theorem Zyl (q:Nat):Zm0 (Zfm q):=⟨by show(0:Nat) < _;decide,by show(0:Nat) < _;decide,Zgt,Zgt⟩
theorem Z0p {l:List UInt8}{v:Int}(h:Lib.parseIntB 64 l= .ok v):Zk2 v:=by
 unfold Lib.parseIntB at h;split at h
 ·cases h
 ·rename_i c r;simp only at h;split at h
  ·cases h
  ·cases h
  ·rename_i u _;split at h
   ·cases h
   ·rename_i h1;split at h
    ·cases h
    ·rename_i h2;cases h;unfold Zk2;by_cases hn:c.toNat=45
     ·rw[if_pos hn]
      have: ¬ 2 ^ (64 - 1) < u:=fun z=>h2 ⟨hn,z⟩
      have e:(2:Nat) ^ (64 - 1)=9223372036854775808:=by decide
      omega
     ·rw[if_neg hn]
      have: ¬ 2 ^ (64 - 1)<=u:=fun z=>h1 ⟨hn,z⟩
      have e:(2:Nat) ^ (64 - 1)=9223372036854775808:=by decide
      omega
theorem Zx9 (ht:t.size<=8000)(p q:Nat):(t.extract p q).size < 1000000000:=by
 rw[Ydz];omega
theorem Z30 (hx:Zm0 x)(h:Zg3 t x p= .ok (u,y,q)):Zm0 y:=by
 unfold Zg3 at h;dsimp only at h;split at h
 ·cases h
 ·split at h
  ·cases h
  ·rename_i h64;cases h;refine⟨hx.1,?_,⟨by show(-9223372036854775808:Int)<=4;decide,by show(4:Int)<=9223372036854775807;decide⟩,Zgt⟩;show(Zm3 _ _ _).toArray.size < _;rw[Yc5,Ze0];omega
theorem Z71 {n:Int}(h:Zyj t x p= .ok (n,y,q)):Zk2 n:=by
 unfold Zyj at h;dsimp only at h;generalize (if(Zab t).getD p 0=45 then p+1 else p)=p1 at h;split at h
 ·cases h
 ·split at h
  ·rename_i hp;cases h;exact Z0p hp
  ·cases h
theorem Z4r {qq k:Int}(hx:Zm0 x)(hk:Zk2 k)(h:Zxw t qq k x p= .ok (u,y,q)):Zm0 y:=by
 unfold Zxw at h;split at h
 ·cases h
 ·rename_i hi;cases h;exact⟨hx.1,hx.2.1,hk,Z71 hi⟩
theorem Z4d (ht:t.size<=8000){c:Nat}(h:Zgp t c p= .ok (u,y,q)):Zm0 y:=by
 have hx:=Zyl p;unfold Zgp at h;split at h
 ·unfold Zp7 at h;dsimp only at h;split at h
  ·cases h
  ·split at h
   ·exact Z30 hx h
   ·cases h;exact⟨Zx9 ht _ _,hx.2⟩
 split at h
 ·unfold Zee at h;dsimp only at h;split at h
  ·cases h
  ·split at h
   ·cases h
   ·cases h;exact⟨hx.1,Zx9 ht _ _,⟨by show(-9223372036854775808:Int)<=1;decide,by show(1:Int)<=9223372036854775807;decide⟩,Zgt⟩
 split at h
 ·unfold Zsw at h;split at h
  ·cases h
  ·split at h
   ·cases h
   ·rename_i h64;cases h;refine⟨hx.1,?_,⟨by show(-9223372036854775808:Int)<=3;decide,by show(3:Int)<=9223372036854775807;decide⟩,Zgt⟩;show(List.toArray _).size < _;rw[Yc5];omega
 split at h
 ·exact Z4r hx ⟨by decide,by decide⟩ h
 split at h
 ·exact Z4r hx ⟨by decide,by decide⟩ h
 ·unfold Zp8 at h;split at h
  ·cases h
  ·rename_i m hm;cases h;refine⟨?_,hx.2⟩;have hmem:=List.mem_of_find?_eq_some hm;have hall: ∀ m∈Zga,m.size < 1000000000:=by decide
   exact hall m hmem
theorem Zsr (ht:t.size<=8000)(h:Zg6 t p= .ok (u,y,q)):Zm0 y:=by
 unfold Zg6 at h;split at h
 ·cases h;exact Zyl _
 ·exact Z4d ht h
theorem Zef (ht:t.size<=8000){z:Tk}(h:Zc0 t x p= .ok (z,y,q)):Zm0 y/\z=x:=by
 unfold Zc0 at h;split at h
 ·cases h
 ·rename_i hr;cases h;exact⟨Zsr ht hr,rfl⟩
theorem Zj9 (ht:t.size<=8000){s:List UInt8}{z:Unit}(h:Zgx t s x p= .ok (z,y,q)):Zm0 y:=by
 unfold Zgx at h;split at h
 ·unfold Zbf at h;split at h
  ·cases h
  ·rename_i hr;cases h;exact(Zef ht hr).1
 ·cases h
end Go.W
namespace Go.P
def Zpz (a:Nat->Addr) (b:Nat) (w:World) (t:ByteArray) (u:World) (p:Nat) (x:Tk):Prop:=Rd u b t p x/\Zaf b w u/\Zap a u/\Zm0 x
theorem Zuh (x:Tk)(w:World):Calls Tryz.prog 76 #[Zmm x] w fun e w'=>e= .returned (.bool (Go.W.Zrw x))/\Below w.heap.size w w':=by
 have B:=Zaa ((Yct _ w).alloc lr (.cells #[.int .i64 (x.at_:Int),.string x.text,.int .i64 x.k,.int .i64 x.i,.string x.s,.slice none 0 0] 171));have e0:Go.W.Zrw x=((x.text.toList==[]) && (x.k==0)):=by
  unfold Go.W.Zrw;rw[Zd0,Z25]
 rw[e0];unfold Zmm;go_enter Tryz.func76,Tryz.ntmps76
 cases h1:(x.text.toList==[]);all_goals
  go_wp2_with fail
  all_goals go_ret
  all_goals exact⟨by simp,B.out⟩
theorem Zq2 (x:Tk)(hx:x.text.size < 1000000000)(w:World):Calls Tryz.prog 181 #[Zmm x] w fun e w'=>e= .returned (.bool (Zgs x.text))/\Below w.heap.size w w':=by
 have B:=Zaa ((Yct _ w).alloc lr (.cells #[.int .i64 (x.at_:Int),.string x.text,.int .i64 x.k,.int .i64 x.i,.string x.s,.slice none 0 0] 171));have C:=Zaa (Zj0 ((Zab x.text).getD 0 0));unfold Zmm;by_cases h0:x.text.size=0
 ·have e0:Zgs x.text=false:=by unfold Zgs;rw[decide_eq_false (by omega)];rfl
  have e1:(x.text.toList==[])=true:=by rw[Zd0];exact decide_eq_true h0
  rw[e0];clear C;go_enter Tryz.func181,Tryz.ntmps181
  go_wp2_with fail
  all_goals go_ret
  all_goals exact⟨rfl,B.out⟩
 ·have e0:Zgs x.text=Zce ((Zab x.text).getD 0 0):=by unfold Zgs;rw[decide_eq_true h0];rfl
  have e1:(x.text.toList==[])=false:=by rw[Zd0];exact decide_eq_false h0
  have hp:0 < x.text.size:=by omega
  have hb:=Zhp x.text 0 hp;rw[e0];generalize (Zab x.text).getD 0 0=c at*;generalize Zce c=z at*;clear e0;go_enter Tryz.func181,Tryz.ntmps181
  go_wp2_with (go_at_call 125;refine(C.out _).mono ?_;rintro e w' ⟨rfl,rfl⟩)
  all_goals go_ret
  all_goals exact⟨by simp,B.out⟩
theorem Zi2 {a:Nat->Addr}{w:World}{b:Nat}{t:ByteArray}{p:Nat}{x:Tk}(s:ByteArray)(Z:Zap a w)(h:Rd w b t p x):
  Calls Tryz.prog 79 #[.pointer (some ⟨b,0,none⟩),.string s] w (Zey a b t VU w (Zgx t s.toList x p)):=by
 obtain⟨c0,c1,c2,c3,c4,c5,c6,c7,sf⟩:=h.1.eight;have CR:=Zaa (Zbh a (n:=2) (by decide) h);have CT:=Zaa (Zc4 Z h);have z2:=Z.c2;have H:=Zaa h;clear Z h;go_enter Tryz.func79,Tryz.ntmps79
 by_cases hs:x.text.toList=s.toList
 ·have g:(x.text.toList==s.toList)=true:=by rw[beq_iff_eq];exact hs
  have Y:=Zaa (show Zgx t s.toList x p=Zbf (Zc0 t x p) fun _ x' p'=> .ok ((),x',p')from if_pos hs);clear CR z2 hs;go_wp2_with fail
  refine CT.out.mono ?_;rintro e w1 ⟨hk4,⟨n,r,hy,hn,L,hL,rfl,hB⟩ | ⟨v,y,x2,r,hy,rfl,hv,hr4⟩⟩
  ·exact⟨rfl,hk4,Or.inl ⟨n,r,Y.out.trans (Zai hy),hn,L,hL,rfl,hB⟩⟩
  ·obtain rfl:v=Zmm y:=hv;have R:=Zaa (Ycs hk4 (Ycs (Y.out.trans (Zan hy)) hr4));clear hk4 hy hr4;go_wp2_with fail
   exact⟨rfl,_,(by simp[results,Tryz.results79,go_sem];try rfl),R.out.1,Or.inr ⟨_,_,_,_,R.out.2.1,rfl,rfl,R.out.2.2⟩⟩
 ·have g:(x.text.toList==s.toList)=false:=by rw[beq_eq_false_iff_ne];exact hs
  have Y:=Zaa (show Zgx t s.toList x p= .error (2,x.at_)from if_neg hs);clear CT hs;go_wp2_with fail
  refine CR.out.mono ?_;rintro e w2 ⟨⟨L,hL,rfl,hB⟩,hb⟩;exact⟨rfl,(Zaf.refl b w).ofBelow hb,Or.inl ⟨2,_,Y.out,by decide,L,hL,rfl,hB⟩⟩
end Go.P
