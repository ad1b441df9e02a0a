"""Outandover: stepping through programs so that nothing wished is passed."""
