import Derived.Test.YthjpdjibdnecoaaGreatDoorCards
import Derived.LaidMore
set_option linter.all false
open Go.Proofs.Tryz renaming prog->A
namespace Go.Proofs.YthjpdjibdnecoaaGreatDoor
open Go
theorem dq1(os:Os):((World.doorLaid A 400 os).forCall (fun _ _=>0) ⟨#[],#[.string ⟨#[]⟩],[]⟩).variablesRefB Tryz.checked.prog=true:=by kernel_rfl
theorem dq2(os:Os):(((World.doorLaid A 400 os).forCall (fun _ _=>0) ⟨#[],#[.string ⟨#[]⟩],[]⟩).heap.toList.drop Tryz.checked.prog.globals.size).take ((begin Tryz.checked.prog (fun _ _=>0) default).world.heap.size-Tryz.checked.prog.globals.size)=(begin Tryz.checked.prog (fun _ _=>0) default).world.heap.toList.drop Tryz.checked.prog.globals.size:=by kernel_rfl
theorem dq3(os:Os):Input.okWideB Tryz.checked.prog ((World.doorLaid A 400 os).forCall (fun _ _=>0) ⟨#[],#[.string ⟨#[]⟩],[]⟩) 3 ⟨#[],#[.string ⟨#[]⟩],[]⟩=true:=by kernel_rfl
theorem dq4(os:Os){H:Type}(enc:TypeId×Value->H):Rows.fnExactAnswerSpec.preB enc Tryz.checked.prog Tryz.f3 [] false ((World.doorLaid A 400 os).forCall (fun _ _=>0) ⟨#[],#[.string ⟨#[]⟩],[]⟩).memory #[.string ⟨#[]⟩] 8=true:=by kernel_rfl
theorem dq5(os:Os){H:Type}(enc:TypeId×Value->H):Rows.fnExactAnswerSpec.sizedB enc Tryz.checked.prog Tryz.f3 false ((World.doorLaid A 400 os).forCall (fun _ _=>0) ⟨#[],#[.string ⟨#[]⟩],[]⟩).memory #[.string ⟨#[]⟩] 8=true:=by kernel_rfl
