import Derived.Test.YtbilamnnneddmaaGreatDoorYNBx
import Derived.Lib.Hide
import Derived.Deep.QuietTactic
