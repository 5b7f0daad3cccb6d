import Derived.Test.YtdhblehhgpdpdaaFrames
namespace Go.Proofs.Ytdhblehhgpdpdaa
open Go
end Go.Proofs.Ytdhblehhgpdpdaa
namespace Go.Proofs.Ytdhblehhgpdpdaa
open Go
end Go.Proofs.Ytdhblehhgpdpdaa
