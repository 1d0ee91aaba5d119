"""Pulsewright: rules of pulses, and tables that write any message by them."""
