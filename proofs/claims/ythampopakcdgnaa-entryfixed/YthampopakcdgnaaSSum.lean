import Derived.Test.YthampopakcdgnaaRowz
import Derived.Deep.WholeRow
