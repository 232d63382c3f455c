import Derived.Test.YtcdijppegfcoaabGreatDoorToksK
namespace Go.Proofs.YtcdijppegfcoaabGreatDoor
open Go.RowKit


end Go.Proofs.YtcdijppegfcoaabGreatDoor
