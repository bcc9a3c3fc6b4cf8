"""The floating-point half of a RISC-V processor: see floathalf.processor."""
