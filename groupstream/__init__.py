"""lanternwork: streaming. groupstream.receiver.answers is the way in; README.md tells how to use it."""
