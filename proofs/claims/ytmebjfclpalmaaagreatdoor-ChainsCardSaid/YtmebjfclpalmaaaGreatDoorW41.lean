import Derived.Test.YtmebjfclpalmaaaGreatDoorW22
import Derived.Test.YtmebjfclpalmaaaGreatDoorW40
import Derived.Test.YtmebjfclpalmaaaGreatDoorTie
import Derived.Test.YtmebjfclpalmaaaGreatDoorCards
import Derived.Carry
import Derived.Lay
set_option maxRecDepth 100000
set_option maxHeartbeats 8000000
set_option linter.unusedSimpArgs false
open Go.Proofs Go.RowKit Go.W Go.P
namespace Go.Proofs.YtmebjfclpalmaaaGreatDoor
open Go.ChangeShapes Go.WideShapes Go.ChangeAt Go.RowKit Go.W
theorem own:ownKnob Tryz.prog.godebug=none:=by kernel_rfl
theorem Z9h:laidOutB Tryz.prog=true:=by kernel_rfl
theorem Z4x (os:Os)(args:Array Value):laidMetH Tryz.prog Rows.chainsRow.laid ((((World.holding Tryz.prog os ⟨#[],#[],[]⟩).setCell ⟨10,0,none⟩ (.iface 210 (.agg #[.pointer (some ⟨23,62,none⟩)]))).layVars Tryz.prog (Rows.chainsRow.laid.filter fun x=>x.2.handleName?.isNone)).forCall (fun _ _=>0) ⟨#[],args,[]⟩).memory:=by
 refine laidMetH_of_parts3 (fuel:=8) ?_ (by kernel_rfl) (by kernel_rfl);exact laidMet_layVars (w0:=((World.holding Tryz.prog os ⟨#[],#[],[]⟩).setCell ⟨10,0,none⟩ (.iface 210 (.agg #[.pointer (some ⟨23,62,none⟩)])))) ((Rows.chainsRow.laid.filter fun x=>x.2.handleName?.isNone).map (·.1)) [] (by kernel_rfl) (by kernel_rfl) (by kernel_rfl) LaidIn.none
theorem Zru (os:Os)(started:os.Started)(H:Type)(enc:TypeId×Value->H):
  ReturnsInHanded {} Tryz.checked os 3 .any (fun w args=>(Rows.chainsSpec.pre enc Tryz.prog Tryz.f3 [] false w args/\laidMetH Tryz.prog Rows.chainsRow.laid w)/\sizedMet enc Tryz.prog Tryz.f3 (OpenSpec.ofChange Rows.chainsSpec) false w args)
   (Rows.chainsSpec.post enc Tryz.prog Tryz.f3 false true false false):=by
 refine returnsInHanded_of_change_and (C:=Tryz.checked) (X:=fun w _=>laidMetH Tryz.prog Rows.chainsRow.laid w) (fun _ _ _ hh h=>h.of_heap hh) own started (by kernel_rfl) Tryz.func3
  (ChangeSpec.witness_shaped (enc:=enc) (C:=Tryz.checked) (os:=os) (X:=fun w _=>laidMetH Tryz.prog Rows.chainsRow.laid w) false (((World.holding Tryz.prog os ⟨#[],#[],[]⟩).setCell ⟨10,0,none⟩ (.iface 210 (.agg #[.pointer (some ⟨23,62,none⟩)]))).layVars Tryz.prog (Rows.chainsRow.laid.filter fun x=>x.2.handleName?.isNone)) #[.slice none 0 0] 8 (World.layVars_os _ _ _) (World.shaped_of_ZipB (by kernel_rfl) (by kernel_rfl)) (by kernel_rfl) (by kernel_rfl) (by kernel_rfl) (Z4x os _)) ?_
 intro W base args ds gs before hval0 hW _ hz hL _;have hval: ∀ (j:Nat) t v,Tryz.f3.params[j]?=some t->args[j]?=some v->Value.okWide Tryz.prog W .any base t v:=hval0;have hW':=hW;obtain⟨p,q,hA0,hV,rfl,hfz,hnd⟩:=hW;have hA:DataW.TrodAll enc Tryz.prog W 0 (fun _=>true) true Tryz.f3.params.toList args.toList ds p:=hA0;rw[Tryz.params3]at hA hval hz;obtain⟨v0,d0,rfl,rfl,h0⟩:=trodAll_one hA;obtain⟨rfl,rfl⟩:=trodVars_none hV;obtain⟨sa,sl,sc,rfl⟩:=okWide_slice Tryz.underlying22 (hval 0 22 v0 rfl rfl);have h0k:=h0;obtain⟨fuel,hf⟩:=h0;have hzw:((d0,p).1.weights Tryz.prog 22).all (·<=reachBytes)=true:=Ye1.2 fun n hn=>Ye1.1 hz n (DataW.weights_mem_each (j:=0) rfl rfl n hn);obtain⟨p0,c0,xs,e0,hl,hops⟩:=Zwt hf hzw;cases e0;obtain⟨a,hB,hE,hg⟩:=Zta hL;have Z:Zao a W:=⟨W,hB,fun g o hl=>⟨Ydh hl hg,rfl⟩⟩;clear hA0 hval0 hval;refine(Zzx Z7q Zrv hops hl Z hE).mono fun e W' ⟨he,hb⟩=>?_;subst he;have hlt: ∀ x∈p,x.block < W.heap.size:=fun x hx=>by simpa using hW'.lt x (by simpa using hx)
 exact⟨_,rfl,_,_,_,[],p,[],hW',trodAll_mk1 (shut_bool Tryz.underlying4 true),trodAll_mk1 (Below.trod Z9h (by kernel_rfl) (of_decide_eq_true (by kernel_rfl)) h0k hb hlt),rfl,hb.frame _,fun h=>by cases h⟩
theorem Ztk:Rows.ChainsSaid:=
 OpenClaim.holds_of_wide 3 Tryz.f3 rfl rfl rfl rfl rfl rfl rfl ⟨rfl,rfl,rfl,rfl,rfl⟩ rfl rfl rfl rfl rfl (by kernel_rfl) Tryz.func3 Zrt
  (of_decide_eq_true (by kernel_rfl)) (by unfold Func.isWrapper;first | (rw[if_pos (by decide+kernel)];kernel_rfl) | (rw[if_neg (by decide+kernel)];exact⟨rfl,rfl⟩))
  (fun os started H enc _=>Zru os started H enc)
theorem chains_card:Rows.ChainsCardSaid:=
 Claim7.holds_tied_plain_at .later [] [.data,.data,.data,.data,.handle,.sentinel,.sentinel,.data,.data,.data,.data,.data,.sentinel,.sentinel,.sentinel,.sentinel,.sentinel,.sentinel,.sentinel,.sentinel,.sentinel,.sentinel,.pinned] true (true,"e9657c72b271e0794d427f7c190c2f0ddfabf7a1257a34440209d3d495f75f76") true
  Ztk (fun _ h=>by cases h) (by kernel_rfl) (fun _ h=>by cases h) chains_row_tie rfl ⟨rfl,rfl⟩ (by kernel_rfl) rfl
  (fun f fn hf hfn=>by
   obtain rfl:f=3:=Yen ((show Tryz.prog.funcNamed "warrant/warrantkeep.Chains" =some 3 by kernel_rfl).symm.trans hf) |>.symm;obtain rfl:fn=Tryz.f3:=(Yen (Tryz.func3.symm.trans hfn)).symm;exact⟨by kernel_rfl,fun j t ht=>by
    rw[Tryz.params3]at ht;have hm:t∈[22]:=by simpa using Array.mem_of_getElem? ht
    have hall:([22].all fun u=> !Tryz.prog.wantsStandIn u)=true:=by kernel_rfl
    exact(show Tryz.prog.wantsStandIn t=false by simpa using Ye1.1 hall t hm)⟩)
  (by kernel_rfl)
end Go.Proofs.YtmebjfclpalmaaaGreatDoor
