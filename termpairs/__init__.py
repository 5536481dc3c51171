"""Rules of rewriting looked at: termpairs.rules.told is the way in."""
