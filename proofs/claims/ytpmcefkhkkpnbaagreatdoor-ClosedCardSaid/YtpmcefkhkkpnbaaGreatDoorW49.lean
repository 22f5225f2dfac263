import Derived.Test.YtpmcefkhkkpnbaaGreatDoorW47
import Derived.Test.YtpmcefkhkkpnbaaGreatDoorW48
import Derived.Test.YtpmcefkhkkpnbaaGreatDoorTie
import Derived.Test.YtpmcefkhkkpnbaaGreatDoorCards
import Derived.Carry
import Derived.Lay
set_option maxRecDepth 100000
set_option maxHeartbeats 8000000
set_option linter.unusedSimpArgs false
open Go.Proofs Go.RowKit Go.W
namespace Go.Proofs.YtpmcefkhkkpnbaaGreatDoor
open Go.ChangeShapes Go.WideShapes Go.ChangeAt Go.RowKit Go.W
theorem own:ownKnob Tryz.prog.godebug=none:=zt
theorem Z0s:laidOutB Tryz.prog=true:=zt
theorem Zrr (os:Os)(args:Array Value):laidMetH Tryz.prog Rows.closedRow.laid ((((World.holding Tryz.prog os ⟨#[],#[],[]⟩).setCell (zm 10 0)<|.iface 245<|.agg #[zq 24 57]).layVars Tryz.prog (Rows.closedRow.laid.filter fun x=>x.2.handleName?.isNone)).forCall (fun _ _=>0) ⟨#[],args,[]⟩).memory:=by
 refine laidMetH_of_parts3 (fuel:=8) ?_ zt zt;exact laidMet_layVars (w0:=((World.holding Tryz.prog os ⟨#[],#[],[]⟩).setCell (zm 10 0)<|.iface 245<|.agg #[zq 24 57])) ((Rows.closedRow.laid.filter fun x=>x.2.handleName?.isNone).map (·.1)) [] zt zt zt LaidIn.none
theorem Yn4 (os:Os)(started:os.Started)(H:Type)(enc:TypeId×Value->H):
  ReturnsInHanded {} Tryz.checked os 3 .any (fun w args=>(Rows.closedSpec.pre enc Tryz.prog Tryz.f3 [] false w args/\laidMetH Tryz.prog Rows.closedRow.laid w)/\sizedMet enc Tryz.prog Tryz.f3 (OpenSpec.ofChange Rows.closedSpec) false w args)
   (Rows.closedSpec.post enc Tryz.prog Tryz.f3 false true false false):=by
 refine returnsInHanded_of_change_and (C:=Tryz.checked) (X:=fun w _=>laidMetH Tryz.prog Rows.closedRow.laid w) (fun _ _ _ hh h=>h.of_heap hh) own started zt Tryz.func3
  (ChangeSpec.witness_shaped (enc:=enc) (C:=Tryz.checked) (os:=os) (X:=fun w _=>laidMetH Tryz.prog Rows.closedRow.laid w) false (((World.holding Tryz.prog os ⟨#[],#[],[]⟩).setCell (zm 10 0)<|.iface 245<|.agg #[zq 24 57]).layVars Tryz.prog (Rows.closedRow.laid.filter fun x=>x.2.handleName?.isNone)) #[zn] 8 (World.layVars_os _ _ _) (World.shaped_of_ZipB zt zt) zt zt zt<|Zrr os _) ?_
 intro W base args ds gs before PV hW _ hz hL _;have hval: ∀ (j:Nat) t v,Tryz.f3.params[j]?=some t->args[j]?=some v->Value.okWide Tryz.prog W .any base t v:=PV;have oP:=hW;obtain⟨p,q,pE,hV,rfl,hfz,QW⟩:=hW;have hA:DataW.TrodAll enc Tryz.prog W 0 (fun _=>true) true Tryz.f3.params.toList args.toList ds p:=pE;rw[Tryz.params3]at hA hval hz;obtain⟨v0,d0,rfl,rfl,h0⟩:=trodAll_one hA;obtain⟨rfl,rfl⟩:=trodVars_none hV;obtain⟨sa,sl,sc,rfl⟩:=okWide_slice Tryz.underlying22<|hval 0 22 v0 rfl rfl;have h0k:=h0;obtain⟨fuel,hf⟩:=h0;have iW:((d0,p).1.weights Tryz.prog 22).all (·<=reachBytes)=true:=SI.2 fun n hn=>SI.1 hz n (DataW.weights_mem_each (j:=0) rfl rfl n hn);obtain⟨p0,c0,xs,e0,hl,dR⟩:=Zre hf iW;cases e0;obtain⟨a,hB,hE,DK,hg⟩:=Zjh hL;have Z:AZ a W:=⟨W,hB,fun g o hl=>⟨BK hl hg,rfl⟩⟩;clear pE PV hval;refine(Yo6 Z36 uu dR hl ⟨Z,DK,hg⟩ hE).mono fun e W' ⟨he,hb⟩=>?_;subst he;have hlt: ∀ x∈p,x.block<W.heap.size:=fun x hx=>by simpa using oP.lt x (by simpa using hx)
 exact⟨_,rfl,_,_,_,[],p,[],oP,trodAll_mk1<|shut_bool Tryz.underlying4 true,trodAll_mk1<|Below.trod Z0s zt (of_decide_eq_true zt) h0k hb hlt,rfl,hb.frame _,fun h=>by cases h⟩
theorem Yn9:Rows.ClosedSaid:=
 OpenClaim.holds_of_wide 3 Tryz.f3 rfl rfl rfl rfl rfl rfl rfl ⟨rfl,rfl,rfl,rfl,rfl⟩ rfl rfl rfl rfl rfl zt Tryz.func3 Yn3
  (of_decide_eq_true zt) (by unfold Func.isWrapper;first | (rw[if_pos (by decide+kernel)];kernel_rfl) | (rw[if_neg (by decide+kernel)];exact⟨rfl,rfl⟩))
  (fun os started H enc _=>Yn4 os started H enc)
theorem closed_card:Rows.ClosedCardSaid:=
 Claim7.holds_tied_plain_at .later [] [.data,.data,.data,.data,.handle,.sentinel,.sentinel,.data,.data,.data,.data,.data,.sentinel,.sentinel,.sentinel,.sentinel,.sentinel,.sentinel,.sentinel,.sentinel,.sentinel,.sentinel,.pinned] true (true,"eaa39478ebcc4ddbc7731df732f33ae913e8d2c0ce306a3b60fd957181e544e1") true
  Yn9 (fun _ h=>by cases h) zt (fun _ h=>by cases h) closed_row_tie rfl ⟨rfl,rfl⟩ zt rfl
  (fun f fn hf hfn=>by
   obtain rfl:f=3:=Gw ((show Tryz.prog.funcNamed "warrant/warrantkeep.Closed" =some 3 by kernel_rfl).symm.trans hf) |>.symm;obtain rfl:fn=Tryz.f3:=(Gw<|Tryz.func3.symm.trans hfn).symm;exact⟨zt,fun j t ht=>by
    rw[Tryz.params3]at ht;have hm:t∈[22]:=by simpa using Array.mem_of_getElem? ht
    have hall:([22].all fun u=> !Tryz.prog.wantsStandIn u)=true:=zt
    exact(show Tryz.prog.wantsStandIn t=false by simpa using SI.1 hall t hm)⟩)
  zt
end Go.Proofs.YtpmcefkhkkpnbaaGreatDoor
