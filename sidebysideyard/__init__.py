"""Two texts laid side by side, sentence by sentence."""
