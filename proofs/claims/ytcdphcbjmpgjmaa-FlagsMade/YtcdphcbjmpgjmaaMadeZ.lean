import Derived.Test.YtcdphcbjmpgjmaaMade
import Derived.Test.YtcdphcbjmpgjmaaIRZ
import Derived.Test.YtcdphcbjmpgjmaaIHZ
namespace Go.Proofs.Ytcdphcbjmpgjmaa
theorem made_holds : Rows.FlagsMadeSaid :=
  made_of (fun k a b old w ha hb ho => pflags_any k a b old w ha hb ho) (fun c f w hf hc => pholds_any c f w hf hc) (fun o a b f w ha hb hf => preck_any o a b f w ha hb hf)
#print axioms made_holds
end Go.Proofs.Ytcdphcbjmpgjmaa
