import Derived.Test.YtcdijppegfcoaaaGreatDoorZH32
set_option linter.unusedSimpArgs false
namespace Go.Proofs.YtcdijppegfcoaaaGreatDoor
open Go.RowKit Go.Extern.Stop Go.Stop Go.Extern Tryz
theorem Gn.drew{w e:World}(h:Gn w e):Gn w e.drew:=⟨h.os,h.output,h.size,h.block⟩
end Go.Proofs.YtcdijppegfcoaaaGreatDoor
