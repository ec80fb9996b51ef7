"""lanternwork: the coder. The calls are answered by foretoldbits.coder.answers."""
