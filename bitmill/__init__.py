"""The user's instructions of System/360, run by steps over 65536 bytes."""
