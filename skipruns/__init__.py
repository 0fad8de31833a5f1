"""What may be skipped: which jobs needn't be run again, by what runs of them were told."""
