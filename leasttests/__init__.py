"""Tests kept for programs that compare: see leasttests.bench."""
