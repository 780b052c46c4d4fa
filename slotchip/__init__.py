"""slotchip: a SuperH (SH-2) run by steps over 65536 bytes."""
