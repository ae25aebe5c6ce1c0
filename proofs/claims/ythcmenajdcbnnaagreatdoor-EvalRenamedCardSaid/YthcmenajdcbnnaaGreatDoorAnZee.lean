import Derived.Test.YthcmenajdcbnnaaGreatDoorAnZed
import Derived.Lib.BufferMore
import Derived.Lib.Strings
namespace Go.Proofs.YthcmenajdcbnnaaGreatDoor
open Go Go.RowKit
theorem Ds:type_of% @Lib.cell_of_heap:=@Lib.cell_of_heap
theorem D0:type_of% @Lib.heap_setCell_same:=@Lib.heap_setCell_same
theorem Ya:type_of% @Lib.size_eq:=@Lib.size_eq
theorem Yh:type_of% @Lib.toList_data:=@Lib.toList_data
end Go.Proofs.YthcmenajdcbnnaaGreatDoor
